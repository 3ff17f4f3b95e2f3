import PyProof.Rows.All
import Wide.All
import OpenK.AllK
import Wide.FinOn
import HandS.ForMost
import KE.KTupSum
import KE.GoesMore
import HandS.SortKw
import KE.DataMinMax
import KE.KDictCopyH
import KE.KDictKeyed
import KE.KDictLaw
import PySem.Challenge.RW_warmswitch_k45_whole_far_costs
import HandS.Property
import HandS.MakeKwOnly
import HandS.Star
import HandS.Gcd
import HandS.WideBits
import HandS.Wide
import HandS.TupAny
import HandS.Style
import HandS.Iter
import HandS.IsInst
import KE.KStateDown
import HandS.Head0
import HandS.Head1
import HandS.Head2
import HandS.Head3
import HandS.HeadEnd
import HandS.HeadHook1
import HandS.HeadHook2
import PyProof.FString
import KE.KExcSuper
import HandS.Base
import HandS.Call
import HandS.Exc
import PyProof.SeqRoads
import HandS.NamedTup0
import HandS.NamedTupGet
import HandS.ClsMeth
import KE.KMathGC
import KE.KNestM
import HandS.ExcIs
import HandS.HeadHook4
import HandS.HeadNt
import HandS.EndTab
import PyProof.EqAt
import KE.KExcIs
import HandS.TryOnly
import HandS.Lambda
import KE.KDflt
import HandS.Words
import HandS.Comp
import PyProof.InstNe
import HandS.TupMul
import HandS.OwnEq
import OpenK.KMeth
import KE.KCallOwn
import HandS.CallLocal
import KE.KOpsOwn
import HandS.SlotsOwn
import HandS.ExcOwn
set_option Elab.async false
set_option linter.all false
set_option maxRecDepth 100000
/-! more rules over the hand layer: a chain of three comparisons, sum of a tuple, enumerate of a tuple -/
namespace Ru
open PySem PySem.Spec PyProof.Rows L2
section
variable {X : Cx} {a b c d : Expr} {ta tb tc td : TE} {pos : Pos}
/-- a op1 b op2 c op3 d, each answer a truth value; behind a False the rest isn't asked -/
def tCh3 (r1 r2 r3 : R2) (ta tb tc td : TE) : TT := fun σ H Q => ta σ H fun x H1 => tb σ H1 fun y H2 => r1 x y H2 fun z H3 => ∃ k, z = .bl k ∧
  (if k = true then tc σ H3 fun u H4 => r2 y u H4 fun z2 H5 => ∃ k2, z2 = .bl k2 ∧ (if k2 = true then td σ H5 fun v H6 => r3 u v H6 fun z3 H7 => ∃ k3, z3 = .bl k3 ∧ Q k3 H7 else Q false H5) else Q false H3)
theorem pt_ch3 {o1 o2 o3 : CmpOp} {r1 r2 r3 : R2} (h1 : OpR X (compareOp o1) r1) (h2 : OpR X (compareOp o2) r2) (h3 : OpR X (compareOp o3) r3) (ha : PE X a ta) (hb : PE X b tb) (hc : PE X c tc) (hd : PE X d td)
    (hm : lastMarks [o1, o2, o3] [b, c, d] = false := by with_unfolding_all rfl) : PT X (.Compare a [o1, o2, o3] [b, c, d] pos) (tCh3 r1 r2 r3 ta tb tc td) :=
  ⟨fun pins s σ H Q I h => isTrue_chain (thn (ha.run pins s σ H _ I h) fun va s1 ⟨x, H1, I1, e1, g1⟩ => test_link (thn (hb.run pins s1 σ H1 _ I1 g1) fun vb s2 ⟨y, H2, I2, e2, g2⟩ =>
    thn (h1 pins s2 σ H2 x y va vb _ I2 e1 e2 g2) fun w1 s3 ⟨z, H3, I3, e3, k, ek, g3⟩ => by
      subst ek; cases e3
      refine wpAny_truthy_bool ?_
      cases k with
      | false => exact ite_ff ⟨H3, I3, g3⟩
      | true =>
        exact ite_tt (test_link (thn (hc.run pins s3 σ H3 _ I3 g3) fun vc s4 ⟨u, H4, I4, e4, g4⟩ => thn (h2 pins s4 σ H4 y u vb vc _ I4 e2 e4 g4) fun w2 s5 ⟨z2, H5, I5, e5, k2, ek2, g5⟩ => by
          subst ek2; cases e5
          refine wpAny_truthy_bool ?_
          cases k2 with
          | false => exact ite_ff ⟨H5, I5, g5⟩
          | true =>
            exact ite_tt (test_last (thn (hd.run pins s5 σ H5 _ I5 g5) fun vd s6 ⟨v, H6, I6, e6, g6⟩ => thn (h3 pins s6 σ H6 u v vc vd _ I6 e4 e6 g6) fun w3 s7 ⟨z3, H7, I7, e7, k3, ek3, g7⟩ => by
              subst ek3; cases e7
              exact wpAny_truthy_bool ⟨H7, I7, g7⟩)))))) hm⟩
/-- the same as a value -/
def tCh3v (r1 r2 r3 : R2) (ta tb tc td : TE) : TE := fun σ H Q => ta σ H fun x H1 => tb σ H1 fun y H2 => r1 x y H2 fun z H3 => ∃ k, z = .bl k ∧
  (if k = true then tc σ H3 fun u H4 => r2 y u H4 fun z2 H5 => ∃ k2, z2 = .bl k2 ∧ (if k2 = true then td σ H5 fun v H6 => r3 u v H6 Q else Q (.bl false) H5) else Q (.bl false) H3)
theorem pe_ch3 {o1 o2 o3 : CmpOp} {r1 r2 r3 : R2} (h1 : OpR X (compareOp o1) r1) (h2 : OpR X (compareOp o2) r2) (h3 : OpR X (compareOp o3) r3) (ha : PE X a ta) (hb : PE X b tb) (hc : PE X c tc) (hd : PE X d td)
    (hm : lastMarks [o1, o2, o3] [b, c, d] = false := by with_unfolding_all rfl) : PE X (.Compare a [o1, o2, o3] [b, c, d] pos) (tCh3v r1 r2 r3 ta tb tc td) :=
  ⟨fun pins s σ H Q I h => Compare_chain (thn (ha.run pins s σ H _ I h) fun va s1 ⟨x, H1, I1, e1, g1⟩ => chain_link (thn (hb.run pins s1 σ H1 _ I1 g1) fun vb s2 ⟨y, H2, I2, e2, g2⟩ =>
    thn (h1 pins s2 σ H2 x y va vb _ I2 e1 e2 g2) fun w1 s3 ⟨z, H3, I3, e3, k, ek, g3⟩ => by
      subst ek; cases e3
      refine wpAny_truthy_bool ?_
      cases k with
      | false => exact ite_ff ⟨.bl false, H3, I3, rfl, g3⟩
      | true =>
        exact ite_tt (chain_link (thn (hc.run pins s3 σ H3 _ I3 g3) fun vc s4 ⟨u, H4, I4, e4, g4⟩ => thn (h2 pins s4 σ H4 y u vb vc _ I4 e2 e4 g4) fun w2 s5 ⟨z2, H5, I5, e5, k2, ek2, g5⟩ => by
          subst ek2; cases e5
          refine wpAny_truthy_bool ?_
          cases k2 with
          | false => exact ite_ff ⟨.bl false, H5, I5, rfl, g5⟩
          | true => exact ite_tt (chain_last (thn (hd.run pins s5 σ H5 _ I5 g5) fun vd s6 ⟨v, H6, I6, e6, g6⟩ => h3 pins s6 σ H6 u v vc vd Q I6 e4 e6 g6)))))) hm⟩
/-- sum(t), t a tuple of ints -/
def rSumT (K : PySem.W.Frag) : List V → Hp → VK → Prop := fun vs H Q => ∃ (p : Addr) (ns : List Int), vs = [V.ref p] ∧ SqT K H p (ns.map V.int) ∧ Q (.int ns.sum) H
theorem cr_sumT (hc : X.calm = true) : CallR X (.builtin "sum") (rSumT X.K) := fun pins s σ H vs us Q I r h => by
  obtain ⟨p, ns, rfl, hs, g⟩ := h
  obtain ⟨its, rv, ht, _⟩ := I.tuple hs
  rw [Vals.ref1 r]
  obtain ⟨xs, ex⟩ := rv.ints.allInts.items
  have en : numsOf (intItems xs).toList = ns := by rw [← ex]; exact rv.ints.numsOf
  rw [nums_intItems] at en
  rw [ex] at ht
  refine PySem.W.ktm_sumG (I.ok.hd hc) ht fun h' tk t' hk => ⟨.int _, H, I.kept hk, ⟨t', ?_⟩, g⟩
  rw [preSum_eq, List.take_of_length_le (by simp), en]
end
/-! ### enumerate(t), t a tuple -/
theorem enum_newT (l : Addr) (items : Array Value) (n : Nat) (dct : Option Addr) (sl : Array (Option Value)) :
    Meets (Builtin.«enumerate.__new__» ⟨[.type "enumerate", .ref l], []⟩) (fun _ R s => s.heap.get? l = some { cls := .type "tuple", dict := dct, data := .seq items n, slots := sl } ∧
      R (.ok (.ret (.ref (s.heap.push { cls := .type "tuple_iterator", data := .fields #[.ref l, .int 0 0] }).objs.size)))
        { s with heap := (s.heap.push { cls := .type "tuple_iterator", data := .fields #[.ref l, .int 0 0] }).push { cls := .type "enumerate", data := .fields #[.none, .bool false, .ref s.heap.objs.size, rawInt 0, .none, .none] } }) :=
  .of_wp fun prog w A R s hyp => by
    obtain ⟨hp, g, d, tk, os⟩ := s; obtain ⟨hl, hyp⟩ := hyp
    have hsub := sub_enumerate
    have isT : Heap.IsTuple (Shared.heap ⟨hp, g, d, tk, os⟩) l items := ⟨_, hl, rfl, n, rfl⟩
    wp_walk using AutoSeq1.wpAny_loadPart' hl
    refine wpAny_stack_any fun st => wpAny_pure ?_
    split
    · rename_i c _ _ _ _ _
      cases (c == Value.type "enumerate")
      · wp_walk using AutoSeq1.wpAny_loadPart' hl, wpAny_pyIter_tuple isT
        exact ⟨_, rfl, hyp⟩
      · wp_walk using AutoSeq1.wpAny_loadPart' hl, wpAny_pyIter_tuple isT
        exact ⟨_, rfl, hyp⟩
    · wp_walk using AutoSeq1.wpAny_loadPart' hl, wpAny_pyIter_tuple isT
      exact ⟨_, rfl, hyp⟩
section
variable {prog : Program} {w : World} {A : Around} {E : Value → Shared → Prop} {s : Shared}
theorem enum_tuple {l : Addr} {items : Array Value} {Q : Value → Shared → Prop} (ht : s.heap.IsTuple l items)
    (h : ∀ h', IsEnum h' (s.heap.objs.size + 1) s.heap.objs.size 0 .none → h'.IsTupleIter s.heap.objs.size l 0 → (∀ b o, s.heap.get? b = some o → h'.get? b = some o) → Q (.ref (s.heap.objs.size + 1)) { s with heap := h' }) :
    wpAny (model prog w) A (call (.type "enumerate") [.ref l]) Q E s := by
  obtain ⟨⟨c, dct, dt, sl⟩, hl, hc, n, hd⟩ := ht
  obtain rfl : c = .type "tuple" := hc
  obtain rfl : dt = .seq items n := hd
  refine callType_new F.called_enumerate (by decide) (F.typeCall_enumerate_1 _) (F.newCall_enumerate_1 _) (fun obj => F.args_object_init_2 obj _) F.entry_enumerate_new (enum_newT l items n dct sl) ⟨hl, ?_⟩
  generalize ei : ({ cls := .type "tuple_iterator", data := .fields #[.ref l, .int 0 0] } : Obj) = oi
  have hz : (s.heap.push oi).objs.size = s.heap.objs.size + 1 := Heap.size_push ..
  show _ ∧ _
  rw [hz]
  have g : IsEnum ((s.heap.push oi).push { cls := .type "enumerate", data := .fields #[.none, .bool false, .ref s.heap.objs.size, rawInt 0, .none, .none] }) (s.heap.objs.size + 1) s.heap.objs.size 0 .none := by
    have q := Heap.get?_push_size (s.heap.push oi) (o := { cls := .type "enumerate", data := .fields #[.none, .bool false, .ref s.heap.objs.size, rawInt 0, .none, .none] }) rfl
    rw [hz] at q; exact q
  subst ei
  exact ⟨⟨_, g, rfl⟩, h _ g ⟨_, Heap.get?_push_of_some _ (Heap.get?_push_size _ rfl), rfl, rfl⟩ fun b o y => Heap.get?_push_of_some _ (Heap.get?_push_of_some _ y)⟩
end
/-- the tuple of n items at a, each item in a new pair -/
def IteT (K : PySem.W.Frag) (a : Addr) (n : Nat) : It :=
  ⟨fun i H => i < n ∧ ∃ xs : List V, SqT K H a xs ∧ xs.length = n, fun i H v H' => ∃ T x, v = .ref T ∧ H T = none ∧ H' = upd H T (.tup [.int (i : Nat), x]) ∧ ∀ xs, SqT K H a xs → xs[i]? = some x, fun i H => n ≤ i ∧ ∃ xs : List V, SqT K H a xs ∧ xs.length = n⟩
theorem turn_enumT {P : Program} {w : World} {K : PySem.W.Frag} {elts : List Expr} {kk : Nat} {tpos : Pos} (a n e it : Addr) :
    Turn P w K (.Tuple elts kk tpos) (IteT K a n) [e, it] e (fun i h => (∃ old, IsEnum h e it ((i : Nat) : Int) old) ∧ h.IsTupleIter it a i ∧ e ≠ it ∧ a ≠ it ∧ e ≠ a ∧ i ≤ n) where
  mem := by simp
  obj := fun i h ⟨⟨old, he⟩, ⟨o, ho, hc, hd⟩, _⟩ b hb => by
    rcases List.mem_cons.mp hb with rfl | hb
    · exact ⟨_, he, fun v q => nomatch q⟩
    · obtain rfl := List.mem_singleton.mp hb
      exact ⟨o, ho, fun v q => by rw [hd] at q; cases q⟩
  keep := fun i h h' ⟨⟨old, he⟩, ⟨o, ho, hc, hd⟩, hne⟩ k => ⟨⟨old, k e (by simp) _ he⟩, ⟨o, k it (by simp) _ ho, hc, hd⟩, hne⟩
  item := by
    intro X hP hw hK hc i pins s σ H E I hf st hg
    subst hP hw hK
    obtain ⟨⟨old, he⟩, hit, hne, hai, hea, hin⟩ := st
    obtain ⟨hlt0, xs, hq, hn⟩ := hg
    obtain ⟨x, hx⟩ : ∃ x, xs[i]? = some x := ⟨xs[i], by simp [hn, hlt0]⟩
    obtain ⟨its, rv, ht, hz⟩ := I.tuple hq
    obtain ⟨u, hu, ru⟩ := rv.get hx
    have el : e < s.heap.objs.size := Heap.lt_size he
    have il : it < s.heap.objs.size := by obtain ⟨_, q, _⟩ := hit; exact Heap.lt_size q
    have D := Draws.tuple (prog := X.prog) (w := X.w) (A := X.A.in1) (I.ok.hd hc) it a hai its.toArray
    have hlt : i < its.toArray.size := by
      have := (List.getElem?_eq_some_iff.mp hu).1
      simpa using this
    refine wpAny_pyNext_enum_itemD D he ⟨hit, ht⟩ hlt hne (by simp [hne, hea]) fun x' h' tk hP ho st' hT hsz hk => ?_
    have ex : x' = u := by
      have q : its[i]? = some x' := by simpa using hP
      rw [hu] at q; exact (Option.some.inj q).symm
    subst ex
    refine ⟨_, rfl, wpAny_letOwnedTupleGo_enum (s := { s with heap := h', toks := tk + 1 }) ho fun h2 he2 sb => ?_⟩
    have T2 : h2.get? s.heap.objs.size = some { cls := .type "tuple", data := .seq #[.int i tk, x'] } := (sb.2 _ (Nat.ne_of_gt el)).trans hT
    have new : ObjOk X.prog X.w (upd H s.heap.objs.size (.tup [.int (i : Nat), x])) h2 s.heap.objs.size (.tup [.int (i : Nat), x]) := ⟨by show 2 ≤ sizeLine; decide, [.int i tk, x'], .cons ⟨_, rfl⟩ (.cons ru .nil), ⟨_, T2, rfl, _, rfl⟩⟩
    have I1 : Inv X pins σ (upd H s.heap.objs.size (.tup [.int (i : Nat), x])) { s with heap := h2, toks := tk + 1 } :=
      I.turnedNew (ch := [e, it]) (fun b ob hb q => by
        simp only [List.mem_cons, List.not_mem_nil, or_false, not_or] at hb
        exact (sb.2 b hb.1).trans (hk b ob hb.1 hb.2 q)) hf (Nat.le_refl _) new
    refine ⟨.ref s.heap.objs.size, _, I1, rfl, ⟨_, x, rfl, I.hok.fresh (Nat.le_refl _), rfl, fun ys hy => by rw [I.tuple_inj hy hq]; exact hx⟩, ⟨⟨x', ?_⟩, ?_, hne, hai, hea, hlt0⟩, fun b hb => ?_⟩
    · have q : ((i + 1 : Nat) : Int) = (i : Int) + 1 := by omega
      rw [q]; exact he2
    · obtain ⟨⟨o, ho1, ho2, ho3⟩, _⟩ := st'
      exact ⟨o, (sb.2 it (Ne.symm hne)).trans ho1, ho2, ho3⟩
    · have bl : b < s.heap.objs.size := by
        rcases List.mem_cons.mp hb with rfl | hb
        · exact el
        · obtain rfl := List.mem_singleton.mp hb
          exact il
      rw [upd_ne (Nat.ne_of_lt bl)]
      exact (hf b hb).1
  done := by
    intro X hP hw hK hc i pins s σ H E I hf st hg
    subst hP hw hK
    obtain ⟨⟨old, he⟩, hit, hne, hai, hea, hin⟩ := st
    obtain ⟨hni, xs, hq, hn⟩ := hg
    obtain ⟨its, rv, ht, hz⟩ := I.tuple hq
    obtain ⟨f0, f1, f2, f3, f4, f5⟩ := hf it (by simp)
    have hl := rv.length
    have D := Draws.tuple (prog := X.prog) (w := X.w) (A := X.A.in1) (I.ok.hd hc) it a hai its.toArray
    have ei : i = its.toArray.size := by simp; omega
    subst ei
    exact wpAny_pyNext_enum_endD D he ⟨hit, ht⟩ fun h' eb => ⟨rfl, I.turned (t' := s.toks) (fun b o hb q => eb b o hb q) f0 f1 f3 f4 f5⟩
  self := fun A i s Q E ⟨⟨_, he⟩, _⟩ h => wpAny_pyIter_enum he h
def iEnumT (K : PySem.W.Frag) (ta : TA) : TI := fun σ H R => ta σ H fun vs H1 => ∃ a xs, vs = [.ref a] ∧ SqT K H1 a xs ∧ R (IteT K a xs.length) H1
theorem pi_enumT {X : Cx} {e : Expr} {ta : TA} {p pos tpos : Pos} {elts : List Expr} {kk : Nat} (hg : Gl X "enumerate") (hm : X.mg "enumerate" = none) (ha : PA X [e] ta) (hs : starEach [e] X.env = [(false, eval e X.env)] := by rfl) :
    PI X (.Tuple elts kk tpos) (.Call (.Name "enumerate" p) [e] [] pos) (iEnumT X.K ta) := by
  refine ⟨fun pins s σ H R I h => Call_ (ld_blt I hg hm boot_enumerate (PyProof.Rows.callWith_type1 (thn (ha.run pos pins s σ H _ I h) fun us s1 ⟨vs, H1, I1, r1, q1⟩ => ?_) hs rfl))⟩
  obtain ⟨a, xs, ex, hq, q⟩ := q1
  subst ex
  rw [Vals.ref1 r1]
  obtain ⟨its, rv, ht, hz⟩ := I1.tuple hq
  have al : a < s1.heap.objs.size := by obtain ⟨_, g, _⟩ := ht; exact Heap.lt_size g
  refine enum_tuple ht fun h' he hit hk => wpAny_pyIter_enum he ?_
  have I2 : Inv X pins σ H1 { s1 with heap := h' } := I1.kept (t' := s1.toks) hk
  refine ⟨s1.heap.objs.size + 1, [s1.heap.objs.size + 1, s1.heap.objs.size], _, _, H1, rfl, I2, turn_enumT a xs.length (s1.heap.objs.size + 1) s1.heap.objs.size, ⟨⟨.none, he⟩, hit, Nat.succ_ne_self _, Nat.ne_of_lt al, Nat.ne_of_gt (Nat.lt_succ_of_lt al), Nat.zero_le _⟩, fun b hb => ?_, q⟩
  have hle : s1.heap.objs.size ≤ b := by
    rcases List.mem_cons.mp hb with rfl | hb
    · exact Nat.le_succ _
    · obtain rfl := List.mem_singleton.mp hb
      exact Nat.le_refl _
  exact I1.fpOk hle (I1.hok.fresh hle)
/-- the loop over enumerate(t): one turn at a time -/
theorem for_enumT {K : PySem.W.Frag} {a : Addr} {xs : List V} {g : TG} {tb : TS} {D : Ends} {σ : L2.St} {H : Hp} (Pv : Nat → L2.St → Hp → Prop) (h0 : Pv 0 σ H) (hl : ∀ i σ H, Pv i σ H → SqT K H a xs)
    (hs : ∀ i x σ H T, xs[i]? = some x → Pv i σ H → H T = none → g (.ref T) σ (upd H T (.tup [.int (i : Nat), x])) fun σ2 H2 => tb { D with nx := Pv (i + 1), ct := Pv (i + 1), bk := D.nx } σ2 H2) (hd : ∀ σ H, Pv xs.length σ H → D.nx σ H) :
    ∃ W : Nat → Nat → L2.St → Hp → Prop, (∃ m, W 0 m σ H) ∧ ∀ i m σ H, W i m σ H →
      ((IteT K a xs.length).stop i H ∧ D.nx σ H) ∨ ((IteT K a xs.length).go i H ∧ ∃ N : L2.St → Hp → Prop, (∀ σ' H', N σ' H' → ∃ m', m' < m ∧ W (i + 1) m' σ' H') ∧ ∀ x H', (IteT K a xs.length).yld i H x H' → g x σ H' fun σ2 H2 => tb { D with nx := N, ct := N, bk := D.nx } σ2 H2) := by
  refine ⟨fun i m σ H => m = xs.length - i ∧ i ≤ xs.length ∧ Pv i σ H, ⟨_, rfl, Nat.zero_le _, h0⟩, fun i m σ H ⟨em, hi, pr⟩ => ?_⟩
  subst em
  have q := hl i σ H pr
  by_cases hlt : i < xs.length
  · refine .inr ⟨⟨hlt, xs, q, rfl⟩, Pv (i + 1), fun σ' H' p' => ⟨_, by omega, rfl, hlt, p'⟩, fun v H' ⟨T, x, e1, e2, e3, e4⟩ => ?_⟩
    subst e1 e3
    exact hs i x σ H T (e4 xs q) pr e2
  · obtain rfl : i = xs.length := by omega
    exact .inl ⟨⟨Nat.le_refl _, xs, q, rfl⟩, hd σ H pr⟩
end Ru

/-! min(xs, default=None) of a list of ints; a dict whose keys are tuples (int, int, bool) -/
namespace Ru
open PySem PySem.Spec PyProof.Rows L2
theorem reads_ints {h : Heap} : ∀ {vs : List Value} {ns : List Int}, IntsAre vs ns → ∃ as, ReadsAll h vs (ns.map PyData.int) as
  | _, _, .nil => ⟨_, .nil⟩
  | _, _, .cons n t r => let ⟨_, q⟩ := reads_ints r; ⟨_, .cons (.int n t) q⟩
theorem depth_ints : ∀ ns : List Int, PyData.depthAll (ns.map PyData.int) = 0
  | [] => rfl
  | n :: r => by show max 0 (PyData.depthAll (r.map PyData.int)) = 0; rw [depth_ints r]; rfl
theorem alike_ints (ns : List Int) : PySem.W.AlikeAll (ns.map PyData.int) := by
  refine ⟨fun x hx y hy => ?_, fun x hx => ?_⟩
  · obtain ⟨a, _, rfl⟩ := List.mem_map.mp hx
    obtain ⟨b, _, rfl⟩ := List.mem_map.mp hy
    rfl
  · obtain ⟨a, _, rfl⟩ := List.mem_map.mp hx
    exact fun q => nomatch q
section
variable {X : Cx}
def rMinD (K : PySem.W.Frag) : List V → List V → Hp → VK → Prop := fun vs zs H Q => ∃ (p : Addr) (ns : List Int) (d : V), vs = [V.ref p] ∧ zs = [d] ∧ SqL K H p (ns.map V.int) ∧ (ns = [] → Q d H) ∧ ∀ m, m ∈ ns → (∀ y ∈ ns, m ≤ y) → Q (.int m) H
theorem fold_min : ∀ (r : List Int) (n : Int), (r.foldl min n = n ∨ r.foldl min n ∈ r) ∧ r.foldl min n ≤ n ∧ ∀ y ∈ r, r.foldl min n ≤ y
  | [], n => ⟨.inl rfl, Int.le_refl _, fun y h => by cases h⟩
  | k :: r, n => by
    obtain ⟨a, b, c⟩ := fold_min r (min n k)
    simp only [List.foldl_cons, List.mem_cons]
    refine ⟨?_, by omega, ?_⟩
    · rcases a with a | a
      · rw [a]; by_cases q : n ≤ k
        · left; omega
        · right; left; omega
      · right; right; exact a
    · intro y hy
      rcases hy with rfl | hy
      · omega
      · exact c y hy
theorem cr_minD (hc : X.calm = true) (hu : X.A.units + 1 < cLine) : CallRK X (.builtin "min") [Str.ofString "default"] (rMinD X.K) := fun pins s σ H vs zs us ws Q I r rz h => by
  obtain ⟨p, ns, d, rfl, rfl, hs, g0, g1⟩ := h
  obtain ⟨its, rv, hl, _⟩ := I.list hs
  obtain rfl := Vals.ref1 r
  obtain ⟨w1, rfl, e1⟩ := vals1 rz
  obtain ⟨as, ra⟩ := reads_ints (h := s.heap) rv.ints
  refine PySem.W.min_list_default (I.ok.hd hc) hl.isList (by simpa using ra) (alike_ints ns) (by rw [depth_ints]; omega) (fun e h' tk hk => ?_) fun y ys i v h' tk bs e hv rd hk => ?_
  · have en : ns = [] := by simpa using e
    exact ⟨d, H, I.kept hk, e1, g0 en⟩
  · cases ns with
    | nil => cases e
    | cons n r =>
      simp only [List.map_cons, List.cons.injEq] at e
      obtain ⟨rfl, rfl⟩ := e
      rw [PySem.W.minD_ints] at rd
      generalize em : r.foldl min n = m at rd
      have fm := fold_min r n
      rw [em] at fm
      cases rd with
      | int _ t =>
        refine ⟨.int m, H, I.kept hk, ⟨t, rfl⟩, g1 m ?_ fun y hy => ?_⟩
        · rcases fm.1 with q | q
          · rw [q]; exact List.mem_cons_self
          · exact List.mem_cons_of_mem _ q
        · rcases List.mem_cons.mp hy with rfl | hy
          · exact fm.2.1
          · exact fm.2.2 y hy
end
/-! ### the dict of states -/
abbrev SKey := Int × Int × Bool
def skV (k : SKey) : List V := [.int k.1, .int k.2.1, .bl k.2.2]
def skL (k : SKey) : List Leaf := [.num k.1, .num k.2.1, .num (if k.2.2 = true then 1 else 0)]
theorem skL_inj {a b : SKey} (h : skL a = skL b) : a = b := by
  obtain ⟨a1, a2, a3⟩ := a
  obtain ⟨b1, b2, b3⟩ := b
  simp only [skL, List.cons.injEq, Leaf.num.injEq, and_true] at h
  obtain ⟨h1, h2, h3⟩ := h
  subst h1 h2
  cases a3 <;> cases b3 <;> simp at h3 <;> rfl
/-- entries: the key, the address of its tuple, the number stored -/
abbrev SEnt := SKey × Addr × Int
abbrev SRel : List SEnt → List (List Leaf × Addr × Value) → Prop := Paired fun p q => q.1 = skL p.1 ∧ q.2.1 = p.2.1 ∧ RelV (.int p.2.2) q.2.2
def lookS (es : List SEnt) (k : SKey) : Option Int := (es.find? fun e => decide (e.1 = k)).map (·.2.2)
def SDict (P : Program) (w : World) (a : Addr) (es : List SEnt) : HO := .ext fun h => (a == sysModules) = false ∧ es.length ≤ sizeLine ∧ ∃ xs, SRel es xs ∧ ∃ o ds ep, h.get? a = some o ∧ o.ExactDict ∧ o.data = .dict ds ep ∧ ds.toList = xs.map (entryOfKey (tupleKind (leafKind P w))) ∧ (xs.map (·.1)).Nodup
section
variable {P : Program} {w : World}
theorem sdict_ok {H : Hp} {h : Heap} {a : Addr} {es : List SEnt} (lo : (a == sysModules) = false) (hz : es.length ≤ sizeLine) {xs : List (List Leaf × Addr × Value)} (r : SRel es xs) {o : Obj} {ds : Array DictEntry} {ep : Nat} (g : h.get? a = some o) (x : o.ExactDict) (d : o.data = .dict ds ep) (e : ds.toList = xs.map (entryOfKey (tupleKind (leafKind P w)))) (nd : (xs.map (·.1)).Nodup) : ObjOk P w H h a (SDict P w a es) :=
  ⟨⟨lo, hz, xs, r, o, ds, ep, g, x, d, e, nd⟩, ⟨o, g⟩, fun h1 h2 ⟨lo, hz, xs, r, o, ds, ep, g, t⟩ k => ⟨lo, hz, xs, r, o, ds, ep, k o g, t⟩⟩
theorem skey_is {H : Hp} {h : Heap} (ok : HOk P w H h) {b : Addr} {k : SKey} (e : H b = some (.tup (skV k))) : (tupleKind (leafKind P w)).is h (skL k) b := by
  obtain ⟨_, its, rv, o, g, hc, n, hd⟩ := ok b _ e
  refine ⟨o, its.toArray, n, g, hc, hd, ?_⟩
  unfold skV at rv
  cases rv with
  | cons r1 rr =>
    cases rr with
    | cons r2 rr =>
      cases rr with
      | cons r3 rr =>
        cases rr
        obtain ⟨t1, rfl⟩ := r1
        obtain ⟨t2, rfl⟩ := r2
        obtain rfl := r3
        refine .cons ?_ (.cons ?_ (.cons ?_ .nil))
        · exact decide_eq_true rfl
        · exact decide_eq_true rfl
        · exact decide_eq_true rfl
/-- the tuples of the keys stand -/
def KeysAt (H : Hp) (es : List SEnt) : Prop := ∀ e ∈ es, H e.2.1 = some (.tup (skV e.1))
theorem srel_keys : ∀ {es : List SEnt} {xs : List (List Leaf × Addr × Value)}, SRel es xs → (∀ x ∈ xs, ∃ e ∈ es, x.1 = skL e.1 ∧ x.2.1 = e.2.1)
  | _, _, .nil => fun x h => by cases h
  | _, _, .cons (a := e) (b := y) r t => fun x h => by
    rcases List.mem_cons.mp h with rfl | h
    · exact ⟨e, List.mem_cons_self, r.1, r.2.1⟩
    · obtain ⟨e', m, q⟩ := srel_keys t x h
      exact ⟨e', List.mem_cons_of_mem _ m, q⟩
theorem srel_at : ∀ {es : List SEnt} {xs : List (List Leaf × Addr × Value)}, SRel es xs → ∀ k, (lookS es k = none ∧ atKey xs (skL k) = none) ∨ ∃ i p, lookS es k = some i ∧ atKey xs (skL k) = some p ∧ RelV (.int i) p.2
  | _, _, .nil => fun k => .inl ⟨rfl, rfl⟩
  | _, _, .cons (a := e) (b := y) r t => fun k => by
    unfold lookS atKey
    rw [List.find?_cons, List.find?_cons]
    by_cases c : e.1 = k
    · subst c
      rw [decide_eq_true rfl, decide_eq_true r.1]
      exact .inr ⟨_, _, rfl, rfl, r.2.2⟩
    · have c2 : ¬ y.1 = skL k := fun q => c (skL_inj (r.1.symm.trans q))
      rw [decide_eq_false c, decide_eq_false c2]
      exact srel_at t k
theorem srel_snoc : ∀ {es : List SEnt} {xs : List (List Leaf × Addr × Value)} {e : SEnt} {x : List Leaf × Addr × Value}, SRel es xs → x.1 = skL e.1 ∧ x.2.1 = e.2.1 ∧ RelV (.int e.2.2) x.2.2 → SRel (es ++ [e]) (xs ++ [x])
  | _, _, _, _, .nil, h => .cons h .nil
  | _, _, _, _, .cons r t, h => .cons r (srel_snoc t h)
theorem sdict_get {H : Hp} {h : Heap} (ok : HOk P w H h) {a : Addr} {es : List SEnt} (e : H a = some (SDict P w a es)) (ks : KeysAt H es) : (a == sysModules) = false ∧ es.length ≤ sizeLine ∧ ∃ xs, SRel es xs ∧ h.DictOfH (tupleKind (leafKind P w)) a xs := by
  obtain ⟨⟨lo, hz, xs, r, o, ds, ep, g, x, d, l, nd⟩, _, _⟩ := ok a _ e
  refine ⟨lo, hz, xs, r, o, ds, ep, g, x, d, l, fun x hx => ?_, nd⟩
  obtain ⟨e', m, q1, q2⟩ := srel_keys r x hx
  rw [q1, q2]
  exact skey_is ok (ks e' m)
end
section
variable {X : Cx} {pos : Pos}
def tDNewS (P : Program) (w : World) : TE := fun _ H Q => ∀ p, H p = none → Q (.ref p) (upd H p (SDict P w p []))
theorem pe_dnewS : PE X (.Dict [] [] pos) (tDNewS X.prog X.w) := ⟨fun pins s σ H Q I h =>
  wpAny_Dict_empty ⟨.ref s.heap.objs.size, _, I.laid (a := s.heap.objs.size) (o := SDict X.prog X.w s.heap.objs.size []) (t' := s.toks) (fun _ _ q => Heap.get?_push_of_some _ q) (Nat.le_refl _)
    (sdict_ok (beq_eq_false_iff_ne.mpr (Ne.symm (Nat.ne_of_lt I.big))) (Nat.zero_le _) .nil (ep := 0) (ds := #[]) (Heap.get?_push_size _ rfl) ⟨rfl, rfl, rfl⟩ rfl rfl List.nodup_nil), rfl, h _ (I.hok.fresh (Nat.le_refl _))⟩⟩
/-- what a look into the dict asks -/
def AskS (P : Program) (w : World) (x y : V) (H : Hp) (R : Addr → Addr → List SEnt → SKey → Prop) : Prop := ∃ (a b : Addr) (es : List SEnt) (k : SKey), x = .ref a ∧ y = .ref b ∧ H b = some (.tup (skV k)) ∧ H a = some (SDict P w a es) ∧ KeysAt H es ∧ R a b es k
theorem op_inSD (hu : X.A.units + 1 < cLine) : OpR X (compareOp .In) (fun y x H Q => AskS X.prog X.w x y H fun _ _ es k => Q (.bl (lookS es k).isSome) H) := fun pins s σ H y x u v Q I ry rx ⟨a, b, es, k, ex, ey, hb, ha, ks, g⟩ => by
  subst ex ey
  cases rx
  cases ry
  obtain ⟨lo, hz, xs, r, dd⟩ := sdict_get I.hok ha ks
  refine wpAny_in_heap (tupleKind_room_in1 hu) (skey_is I.hok hb) lo dd ?_
  rcases srel_at r k with ⟨q1, q2⟩ | ⟨i, p, q1, q2, q3⟩
  · have g' : Q (.bl (lookS es k).isSome) H := g
    rw [q1] at g'
    rw [q2]
    exact ⟨.bl false, H, I.tok _, rfl, g'⟩
  · have g' : Q (.bl (lookS es k).isSome) H := g
    rw [q1] at g'
    rw [q2]
    exact ⟨.bl true, H, I.tok _, rfl, g'⟩
theorem ix_sd (hu : X.A.units + 1 < cLine) : IxR X (fun x y H Q => AskS X.prog X.w x y H fun _ _ es k => ∃ i, lookS es k = some i ∧ Q (.int i) H) := fun value slice pins s σ H x y v u Q I rx ry ⟨a, b, es, k, ex, ey, hb, ha, ks, i, hi, g⟩ hs => by
  subst ex ey
  cases rx
  cases ry
  obtain ⟨lo, hz, xs, r, dd⟩ := sdict_get I.hok ha ks
  rcases srel_at r k with ⟨q1, q2⟩ | ⟨i', p, q1, q2, q3⟩
  · rw [q1] at hi; cases hi
  · rw [q1] at hi
    obtain rfl := Option.some.inj hi
    exact tail_any dd.typeIs slot_dict_getitem.lookup (wpAny_getItem_heap (tupleKind_room_in1 hu) (skey_is I.hok hb) dd q2 ⟨_, _, I.tok _, q3, g⟩) hs
theorem set_sd (hu : X.A.units + 1 < cLine) : PSet X (fun o i v H Q => AskS X.prog X.w o i H fun a b es k => ∃ n, v = .int n ∧ lookS es k = none ∧ es.length < sizeLine ∧ Q (upd H a (SDict X.prog X.w a (es ++ [(k, b, n)])))) := fun pins s σ H o i v ov iv u Q I ro ri rv ⟨a, b, es, k, ex, ey, hb, ha, ks, n, en, hn, hl, g⟩ => by
  subst ex ey en
  cases ro
  cases ri
  obtain ⟨lo, hz, xs, r, dd⟩ := sdict_get I.hok ha ks
  have lx : xs.length ≤ sizeLine := by rw [← Paired.length r]; exact hz
  refine wpAny_setItem_heap (hsz := lx) (tupleKind_room_in1 hu) (skey_is I.hok hb) dd fun h' dd' sb => ?_
  rcases srel_at r k with ⟨q1, q2⟩ | ⟨i', p, q1, q2, q3⟩
  · rw [storedH_new q2] at dd'
    obtain ⟨q, ds, ep, hq, h2, h3, h4, _, h5⟩ := dd'
    refine ⟨_, d_write I (by rw [ha]; exact True.intro) sb ⟨q, hq⟩ (sdict_ok lo (by rw [List.length_append]; exact hl) (srel_snoc r ⟨rfl, rfl, rv⟩) hq h2 h3 h4 h5), g⟩
  · rw [q1] at hn; cases hn
end
end Ru

/-! The thermostat in plain Lean: the course of a temperature, its stretches, its repetition. -/
namespace Th

structure Par where
  ch : List Int
  g : Int
  lo : Int
  hi : Int
  st : Int
  on0 : Bool

structure Par.Ok (p : Par) : Prop where
  n1 : 1 ≤ p.ch.length
  n24 : p.ch.length ≤ 24
  chb : ∀ c ∈ p.ch, -100 ≤ c ∧ c ≤ 100
  g1 : 1 ≤ p.g
  g200 : p.g ≤ 200
  lohi : p.lo ≤ p.hi
  lob : -1000000000000 ≤ p.lo
  hib : p.hi ≤ 1000000000000
  st1 : -1000000000000 ≤ p.st
  st2 : p.st ≤ 1000000000000

def chAt (ch : List Int) (t : Nat) : Int := ch.getD (t % ch.length) 0
def gon (g : Int) (b : Bool) : Int := if b then g else 0
def sumTo (ch : List Int) (gg : Int) : Nat → Int
  | 0 => 0
  | t + 1 => sumTo ch gg t + chAt ch t + gg
/-- the sum of a whole round -/
def rsum (ch : List Int) (gg : Int) : Int := ch.sum + gg * (ch.length : Int)
/-- the sums of the first ticks of a round -/
def pre (ch : List Int) (gg : Int) (r : Nat) : Int := (ch.take r).sum + gg * (r : Int)

theorem sum_take_succ : ∀ {l : List Int} {i : Nat}, i < l.length → (l.take (i + 1)).sum = (l.take i).sum + l.getD i 0
  | [], i, h => by simp at h
  | a :: r, 0, _ => by simp
  | a :: r, i + 1, h => by
    have ih := sum_take_succ (l := r) (i := i) (by simpa using h)
    simp only [List.take_succ_cons, List.sum_cons, List.getD_cons_succ]
    omega

theorem divmod_succ {n t : Nat} (hn : 0 < n) : (t % n + 1 < n ∧ (t + 1) / n = t / n ∧ (t + 1) % n = t % n + 1) ∨ (t % n + 1 = n ∧ (t + 1) / n = t / n + 1 ∧ (t + 1) % n = 0) := by
  have e := Nat.div_add_mod t n
  have l := Nat.mod_lt t hn
  by_cases c : t % n + 1 < n
  · refine .inl ⟨c, ?_, ?_⟩
    · rw [show t + 1 = n * (t / n) + (t % n + 1) by omega, Nat.mul_add_div hn, Nat.div_eq_of_lt c]; rfl
    · rw [show t + 1 = n * (t / n) + (t % n + 1) by omega, Nat.mul_add_mod, Nat.mod_eq_of_lt c]
  · refine .inr ⟨by omega, ?_, ?_⟩
    · rw [show t + 1 = n * (t / n + 1) by rw [Nat.mul_add]; omega, Nat.mul_div_cancel_left _ hn]
    · rw [show t + 1 = n * (t / n + 1) by rw [Nat.mul_add]; omega, Nat.mul_mod_right]

theorem sumTo_eq {ch : List Int} {gg : Int} (hn : 1 ≤ ch.length) : ∀ t : Nat, sumTo ch gg t = ((t / ch.length : Nat) : Int) * rsum ch gg + pre ch gg (t % ch.length)
  | 0 => by simp [sumTo, pre]
  | t + 1 => by
    have ih := sumTo_eq (ch := ch) (gg := gg) hn t
    have lt := Nat.mod_lt t (show 0 < ch.length by omega)
    show sumTo ch gg t + chAt ch t + gg = _
    rw [ih]
    rcases divmod_succ (n := ch.length) (t := t) (by omega) with ⟨c, e1, e2⟩ | ⟨c, e1, e2⟩
    · rw [e1, e2]
      unfold pre chAt
      rw [sum_take_succ lt, Int.natCast_add, Int.mul_add]
      simp only [Int.natCast_one, Int.mul_one]
      omega
    · rw [e1, e2]
      have h1 := sum_take_succ (l := ch) lt
      rw [c, List.take_length] at h1
      unfold pre chAt rsum
      rw [h1, Int.natCast_add, Int.add_mul]
      have : gg * ((ch.length : Nat) : Int) = gg * ((t % ch.length : Nat) : Int) + gg := by
        rw [show ((ch.length : Nat) : Int) = ((t % ch.length : Nat) : Int) + 1 by omega, Int.mul_add, Int.mul_one]
      simp only [List.take_zero, List.sum_nil, Int.natCast_zero, Int.mul_zero, Int.natCast_one, Int.one_mul]
      omega

theorem chAt_add {ch : List Int} (t : Nat) : chAt ch (t + ch.length) = chAt ch t := by
  unfold chAt
  rw [Nat.add_mod_right]
theorem sumTo_round {ch : List Int} {gg : Int} (hn : 1 ≤ ch.length) (t : Nat) : sumTo ch gg (t + ch.length) = sumTo ch gg t + rsum ch gg := by
  rw [sumTo_eq hn, sumTo_eq hn, Nat.add_mod_right, Nat.add_div_right _ (by omega), Int.natCast_add, Int.add_mul]
  simp only [Int.natCast_one, Int.one_mul]
  omega
theorem sumTo_rounds {ch : List Int} {gg : Int} (hn : 1 ≤ ch.length) (t : Nat) : ∀ k : Nat, sumTo ch gg (t + k * ch.length) = sumTo ch gg t + (k : Int) * rsum ch gg
  | 0 => by simp
  | k + 1 => by
    rw [Nat.succ_mul, ← Nat.add_assoc, sumTo_round hn, sumTo_rounds hn t k, Int.natCast_add, Int.add_mul]
    simp only [Int.natCast_one, Int.one_mul]
    omega

/-! ### the course itself -/
def hst (d lo hi : Int) (b : Bool) : Bool := if d < lo then true else if d > hi then false else b
def stepT (p : Par) (t : Nat) (x : Int × Bool) : Int × Bool :=
  (x.1 + chAt p.ch t + gon p.g x.2, hst (x.1 + chAt p.ch t + gon p.g x.2) p.lo p.hi x.2)
def traj (p : Par) : Nat → Int × Bool
  | 0 => (p.st, hst p.st p.lo p.hi p.on0)
  | t + 1 => stepT p t (traj p t)
def deg (p : Par) (t : Nat) : Int := (traj p t).1
def onn (p : Par) (t : Nat) : Bool := (traj p t).2
theorem deg_succ (p : Par) (t : Nat) : deg p (t + 1) = deg p t + chAt p.ch t + gon p.g (onn p t) := rfl
theorem onn_succ (p : Par) (t : Nat) : onn p (t + 1) = hst (deg p (t + 1)) p.lo p.hi (onn p t) := rfl
/-- how many of the first ticks are heated -/
def Hc (p : Par) : Nat → Int
  | 0 => 0
  | t + 1 => Hc p t + (if onn p t then 1 else 0)

/-- the heater stays from b to the tick before e -/
def Run (p : Par) (b e : Nat) : Prop := ∀ t, b ≤ t → t < e → onn p t = onn p b
theorem run_deg {p : Par} {b : Nat} : ∀ {e : Nat}, b ≤ e → Run p b e → deg p e = deg p b + (sumTo p.ch (gon p.g (onn p b)) e - sumTo p.ch (gon p.g (onn p b)) b)
  | 0, h, _ => by
    have : b = 0 := by omega
    subst this; omega
  | e + 1, h, r => by
    by_cases c : b = e + 1
    · subst c; omega
    · have ih := run_deg (p := p) (b := b) (e := e) (by omega) (fun t h1 h2 => r t h1 (by omega))
      rw [deg_succ, ih, r e (by omega) (by omega)]
      show _ = deg p b + (sumTo p.ch (gon p.g (onn p b)) e + chAt p.ch e + gon p.g (onn p b) - _)
      omega
theorem run_heat {p : Par} {b : Nat} : ∀ {e : Nat}, b ≤ e → Run p b e → Hc p e = Hc p b + (if onn p b then ((e - b : Nat) : Int) else 0)
  | 0, h, _ => by
    have : b = 0 := by omega
    subst this; simp
  | e + 1, h, r => by
    by_cases c : b = e + 1
    · subst c; simp
    · have ih := run_heat (p := p) (b := b) (e := e) (by omega) (fun t h1 h2 => r t h1 (by omega))
      show Hc p e + (if onn p e then 1 else 0) = _
      rw [ih, r e (by omega) (by omega)]
      split <;> omega

/-- e is the first tick behind b in which the heater switches -/
def Nx (p : Par) (b e : Nat) : Prop := b < e ∧ Run p b e ∧ onn p e ≠ onn p b
def Nev (p : Par) (b : Nat) : Prop := ∀ t, b ≤ t → onn p t = onn p b
def sgnOf (b : Bool) : Int := if b then 1 else -1
def bndOf (p : Par) (b : Bool) : Int := if b then p.hi else p.lo
def Bey (sgn bound x : Int) : Prop := sgn * (bound - x) < 0
instance (s b x : Int) : Decidable (Bey s b x) := inferInstanceAs (Decidable (_ < _))
/-- the temperature at t if the heater stays as it is in b -/
def DD (p : Par) (b t : Nat) : Int := deg p b + (sumTo p.ch (gon p.g (onn p b)) t - sumTo p.ch (gon p.g (onn p b)) b)

theorem hst_stay {p : Par} (ok : p.lo ≤ p.hi) {b : Bool} {d : Int} : hst d p.lo p.hi b = b ↔ ¬ Bey (sgnOf b) (bndOf p b) d := by
  unfold hst Bey sgnOf bndOf
  cases b
  · simp only [Bool.false_eq_true, if_false]
    by_cases c : d < p.lo
    · simp only [c, if_true]
      constructor
      · intro h; cases h
      · intro h; exact absurd (show (-1 : Int) * (p.lo - d) < 0 by omega) h
    · simp only [c, if_false]
      constructor
      · intro _ h; omega
      · intro _; split <;> rfl
  · simp only [if_true]
    by_cases c : d < p.lo
    · simp only [c, if_true]
      exact ⟨fun _ h => by omega, fun _ => trivial⟩
    · simp only [c, if_false]
      by_cases c2 : d > p.hi
      · simp only [c2, if_true]
        constructor
        · intro h; cases h
        · intro h; exact absurd (show (1 : Int) * (p.hi - d) < 0 by omega) h
      · simp only [c2, if_false]
        exact ⟨fun _ h => by omega, fun _ => trivial⟩
theorem stay_run {p : Par} (ok : p.lo ≤ p.hi) {b : Nat} : ∀ {e : Nat}, (∀ t, b < t → t < e → ¬ Bey (sgnOf (onn p b)) (bndOf p (onn p b)) (DD p b t)) → Run p b e
  | 0, _ => fun t _ h => by omega
  | e + 1, h => fun t h1 h2 => by
    have ih := stay_run ok (p := p) (b := b) (e := e) (fun t h1 h2 => h t h1 (by omega))
    by_cases c : t < e
    · exact ih t h1 c
    · have te : t = e := by omega
      subst te
      by_cases cb : t = b
      · rw [cb]
      · obtain ⟨u, rfl⟩ : ∃ u, t = u + 1 := ⟨t - 1, by omega⟩
        rw [onn_succ, ih u (by omega) (by omega)]
        refine (hst_stay ok).mpr ?_
        rw [run_deg h1 ih]
        exact h (u + 1) (by omega) (by omega)
theorem nx_of {p : Par} (ok : p.lo ≤ p.hi) {b e : Nat} (h0 : b < e) (h : ∀ t, b < t → t < e → ¬ Bey (sgnOf (onn p b)) (bndOf p (onn p b)) (DD p b t)) (he : Bey (sgnOf (onn p b)) (bndOf p (onn p b)) (DD p b e)) : Nx p b e := by
  have r := stay_run ok h
  refine ⟨h0, r, fun q => ?_⟩
  obtain ⟨u, rfl⟩ : ∃ u, e = u + 1 := ⟨e - 1, by omega⟩
  rw [onn_succ, r u (by omega) (by omega)] at q
  refine (hst_stay ok).mp q ?_
  rw [run_deg (by omega) r]
  exact he
theorem nev_of {p : Par} (ok : p.lo ≤ p.hi) {b : Nat} (h : ∀ t, b < t → ¬ Bey (sgnOf (onn p b)) (bndOf p (onn p b)) (DD p b t)) : Nev p b := fun t h1 =>
  stay_run ok (e := t + 1) (fun t h1 _ => h t h1) t h1 (by omega)

/-! ### the first tick beyond a bound -/
theorem DD_round {p : Par} (ok : p.Ok) (b t k : Nat) : DD p b (t + k * p.ch.length) = DD p b t + (k : Int) * rsum p.ch (gon p.g (onn p b)) := by
  unfold DD
  rw [sumTo_rounds ok.n1]
  omega
/-- general: a temperature that goes on as base + sumTo -/
def Dg (ch : List Int) (gg base : Int) (t : Nat) : Int := base + sumTo ch gg t
theorem Dg_rounds {ch : List Int} {gg base : Int} (hn : 1 ≤ ch.length) (t k : Nat) : Dg ch gg base (t + k * ch.length) = Dg ch gg base t + (k : Int) * rsum ch gg := by
  unfold Dg
  rw [sumTo_rounds hn]
  omega
theorem DD_eq (p : Par) (b t : Nat) : DD p b t = Dg p.ch (gon p.g (onn p b)) (deg p b - sumTo p.ch (gon p.g (onn p b)) b) t := by
  unfold DD Dg
  omega
theorem class_of {n b t : Nat} (hn : 0 < n) (h : b < t) : ∃ i k, i < n ∧ t = b + 1 + i + k * n := by
  refine ⟨(t - b - 1) % n, (t - b - 1) / n, Nat.mod_lt _ hn, ?_⟩
  have e := Nat.div_add_mod (t - b - 1) n
  rw [Nat.mul_comm] at e
  omega
/-- what first_beyond gives -/
def FB (ch : List Int) (gg base : Int) (b : Nat) (sgn bound : Int) (r : Option Nat) : Prop :=
  match r with
  | some e => b < e ∧ Bey sgn bound (Dg ch gg base e) ∧ ∀ t, b < t → t < e → ¬ Bey sgn bound (Dg ch gg base t)
  | none => ∀ t, b < t → ¬ Bey sgn bound (Dg ch gg base t)
theorem bey_rounds {ch : List Int} {gg base sgn bound : Int} (hn : 1 ≤ ch.length) (t k : Nat) : sgn * (bound - Dg ch gg base (t + k * ch.length)) = sgn * (bound - Dg ch gg base t) - (k : Int) * (sgn * rsum ch gg) := by
  rw [Dg_rounds hn]
  have e1 : sgn * (bound - (Dg ch gg base t + (k : Int) * rsum ch gg)) = sgn * (bound - Dg ch gg base t) - sgn * ((k : Int) * rsum ch gg) := by rw [← Int.mul_sub]; congr 1; omega
  rw [e1, Int.mul_left_comm]
theorem fb_none {ch : List Int} {gg base sgn bound : Int} {b : Nat} (hn : 1 ≤ ch.length) (hs : sgn * rsum ch gg ≤ 0) (h : ∀ i, i < ch.length → ¬ Bey sgn bound (Dg ch gg base (b + 1 + i))) : FB ch gg base b sgn bound none := fun t ht => by
  obtain ⟨i, k, hi, rfl⟩ := class_of (n := ch.length) (by omega) ht
  have q := h i hi
  unfold Bey at q ⊢
  rw [bey_rounds hn]
  have : (k : Int) * (sgn * rsum ch gg) ≤ 0 := Int.mul_nonpos_of_nonneg_of_nonpos (Int.natCast_nonneg k) hs
  omega
/-- the tick that the class of the i-th tick gives -/
def cand (ch : List Int) (gg base : Int) (b : Nat) (sgn bound : Int) (i : Nat) : Nat :=
  b + 1 + i + (sgn * (bound - Dg ch gg base (b + 1 + i)) / (sgn * rsum ch gg) + 1).toNat * ch.length
theorem fb_some {ch : List Int} {gg base sgn bound : Int} {b m : Nat} (hn : 1 ≤ ch.length) (hs : 0 < sgn * rsum ch gg) (h : ∀ i, i < ch.length → ¬ Bey sgn bound (Dg ch gg base (b + 1 + i)))
    (hm : ∃ i, i < ch.length ∧ m = cand ch gg base b sgn bound i) (hle : ∀ i, i < ch.length → m ≤ cand ch gg base b sgn bound i) : FB ch gg base b sgn bound (some m) := by
  obtain ⟨i, hi, rfl⟩ := hm
  refine ⟨by unfold cand; omega, ?_, fun t h1 h2 => ?_⟩
  · have q := h i hi
    unfold Bey at q ⊢
    unfold cand
    rw [bey_rounds hn]
    generalize sgn * (bound - Dg ch gg base (b + 1 + i)) = gap at *
    generalize sgn * rsum ch gg = sp at *
    have h0 : 0 ≤ gap / sp := Int.ediv_nonneg (by omega) (by omega)
    rw [Int.toNat_of_nonneg (by omega), Int.add_mul, Int.one_mul]
    have e := Int.mul_ediv_add_emod gap sp
    have l := Int.emod_lt_of_pos gap hs
    rw [Int.mul_comm] at e
    omega
  · obtain ⟨j, k, hj, rfl⟩ := class_of (n := ch.length) (by omega) h1
    intro hb
    have q := h j hj
    have le := hle j hj
    unfold Bey at q hb
    rw [bey_rounds hn] at hb
    unfold cand at le h2
    generalize sgn * (bound - Dg ch gg base (b + 1 + j)) = gap at *
    generalize sgn * rsum ch gg = sp at *
    have h0 : 0 ≤ gap / sp := Int.ediv_nonneg (by omega) (by omega)
    have hk : gap / sp < (k : Int) := Int.ediv_lt_of_lt_mul hs (by omega)
    have hk2 : (gap / sp + 1).toNat ≤ k := by omega
    have := Nat.mul_le_mul_right ch.length hk2
    omega
theorem fb_hit {ch : List Int} {gg base sgn bound : Int} {b i : Nat} (h : ∀ j, j < i → ¬ Bey sgn bound (Dg ch gg base (b + 1 + j))) (hi : Bey sgn bound (Dg ch gg base (b + 1 + i))) : FB ch gg base b sgn bound (some (b + 1 + i)) :=
  ⟨by omega, hi, fun t h1 h2 => by
    have q := h (t - b - 1) (by omega)
    rw [show b + 1 + (t - b - 1) = t by omega] at q
    exact q⟩
/-- how late at most: by the first class -/
theorem fb_late {ch : List Int} {gg base sgn bound : Int} {b e : Nat} (hn : 1 ≤ ch.length) (hs : 0 < sgn * rsum ch gg) (h : FB ch gg base b sgn bound (some e)) (hg : 0 ≤ sgn * (bound - Dg ch gg base (b + 1))) : e ≤ cand ch gg base b sgn bound 0 := by
  obtain ⟨h1, h2, h3⟩ := h
  refine Nat.le_of_not_lt fun hlt => ?_
  refine h3 (cand ch gg base b sgn bound 0) (by unfold cand; omega) hlt ?_
  unfold Bey cand
  rw [bey_rounds hn]
  rw [Nat.add_zero]
  generalize sgn * (bound - Dg ch gg base (b + 1)) = gap at *
  generalize sgn * rsum ch gg = sp at *
  have h0 : 0 ≤ gap / sp := Int.ediv_nonneg (by omega) (by omega)
  rw [Int.toNat_of_nonneg (by omega), Int.add_mul, Int.one_mul]
  have e := Int.mul_ediv_add_emod gap sp
  have l := Int.emod_lt_of_pos gap hs
  rw [Int.mul_comm] at e
  omega
end Th

/-! Stretches, repetition, heating in the long run: plain Lean. -/
namespace Th

def stt (p : Par) (t : Nat) : Nat × Int × Bool := (t % p.ch.length, deg p t, onn p t)
theorem traj_again {p : Par} {a l : Nat} (h : stt p a = stt p l) : ∀ j, traj p (l + j) = traj p (a + j)
  | 0 => by
    unfold stt at h
    injection h with h1 h2
    injection h2 with h2 h3
    exact Prod.ext h2.symm h3.symm
  | j + 1 => by
    have ih := traj_again h j
    unfold stt at h
    injection h with h1 h2
    show stepT p (l + j) (traj p (l + j)) = stepT p (a + j) (traj p (a + j))
    rw [ih]
    have e : chAt p.ch (l + j) = chAt p.ch (a + j) := by
      unfold chAt
      rw [Nat.add_mod l j, Nat.add_mod a j, h1]
    unfold stepT
    rw [e]
/-- behind a tick all is the same again T ticks later -/
def Per (p : Par) (f T : Nat) : Prop := ∀ t, f ≤ t → traj p (t + T) = traj p t
theorem per_of {p : Par} {a l : Nat} (h : stt p a = stt p l) (hl : a ≤ l) : Per p a (l - a) := fun t ht => by
  have e := traj_again h (t - a)
  rw [show l + (t - a) = t + (l - a) by omega, show a + (t - a) = t by omega] at e
  exact e
theorem Per.times {p : Par} {f T : Nat} (h : Per p f T) {t : Nat} (ht : f ≤ t) : ∀ m, traj p (t + m * T) = traj p t
  | 0 => by simp
  | m + 1 => by
    rw [Nat.succ_mul, ← Nat.add_assoc, h (t + m * T) (by omega)]
    exact h.times ht m
theorem Per.heat {p : Par} {f T : Nat} (h : Per p f T) : ∀ j, Hc p (f + j + T) - Hc p (f + j) = Hc p (f + T) - Hc p f
  | 0 => rfl
  | j + 1 => by
    have ih := h.heat j
    have e : onn p (f + j + T) = onn p (f + j) := congrArg Prod.snd (h (f + j) (by omega))
    have e1 : Hc p (f + (j + 1) + T) = Hc p (f + j + T) + (if onn p (f + j + T) then 1 else 0) := by
      rw [show f + (j + 1) + T = (f + j + T) + 1 by omega]; rfl
    have e2 : Hc p (f + (j + 1)) = Hc p (f + j) + (if onn p (f + j) then 1 else 0) := rfl
    rw [e1, e2, e]
    omega
theorem Per.heats {p : Par} {f T : Nat} (h : Per p f T) {t : Nat} (ht : f ≤ t) : ∀ m : Nat, Hc p (t + m * T) = Hc p t + (m : Int) * (Hc p (f + T) - Hc p f)
  | 0 => by simp
  | m + 1 => by
    have ih := h.heats ht m
    have e := h.heat (t + m * T - f)
    rw [show f + (t + m * T - f) = t + m * T by omega] at e
    rw [Nat.succ_mul, ← Nat.add_assoc, Int.natCast_add, Int.add_mul]
    simp only [Int.natCast_one, Int.one_mul]
    omega
theorem Per.mono {p : Par} {f f' T : Nat} (h : Per p f T) (hf : f ≤ f') : Per p f' T := fun t ht => h t (by omega)

/-! ### the begins of the stretches -/
def Chain (p : Par) (bs : List Nat) : Prop := bs[0]? = some 0 ∧ ∀ i a c, bs[i]? = some a → bs[i + 1]? = some c → Nx p a c
theorem Chain.ne {p : Par} {bs : List Nat} (h : Chain p bs) : 0 < bs.length := by
  have := h.1
  cases bs with
  | nil => simp at this
  | cons a r => simp
theorem at_some {bs : List Nat} {i : Nat} (h : i < bs.length) : ∃ a, bs[i]? = some a := ⟨bs[i], by simp [h]⟩
theorem at_lt {α : Type} {bs : List α} {i : Nat} {a : α} (h : bs[i]? = some a) : i < bs.length := (List.getElem?_eq_some_iff.mp h).1
theorem Chain.lt {p : Par} {bs : List Nat} (h : Chain p bs) {i : Nat} : ∀ {d a c : Nat}, bs[i]? = some a → bs[i + d + 1]? = some c → a < c
  | 0, a, c, h1, h2 => (h.2 i a c h1 h2).1
  | d + 1, a, c, h1, h2 => by
    obtain ⟨m, hm⟩ := at_some (bs := bs) (i := i + d + 1) (by have := at_lt h2; omega)
    have q1 := h.lt (d := d) h1 hm
    have q2 := (h.2 (i + d + 1) m c hm h2).1
    omega
theorem Chain.lt' {p : Par} {bs : List Nat} (h : Chain p bs) {i j a c : Nat} (hij : i < j) (h1 : bs[i]? = some a) (h2 : bs[j]? = some c) : a < c := by
  refine h.lt (i := i) (d := j - i - 1) h1 ?_
  rw [show i + (j - i - 1) + 1 = j by omega]
  exact h2
theorem Chain.le' {p : Par} {bs : List Nat} (h : Chain p bs) {i j a c : Nat} (hij : i ≤ j) (h1 : bs[i]? = some a) (h2 : bs[j]? = some c) : a ≤ c := by
  by_cases e : i = j
  · subst e; rw [h1] at h2; cases h2; exact Nat.le_refl _
  · exact Nat.le_of_lt (h.lt' (by omega) h1 h2)
theorem Chain.single (p : Par) : Chain p [0] := ⟨rfl, fun i a c h1 h2 => by simp at h2⟩
theorem Chain.snoc {p : Par} {bs : List Nat} {b e : Nat} (h : Chain p bs) (hb : bs[bs.length - 1]? = some b) (n : Nx p b e) : Chain p (bs ++ [e]) := by
  have ne := h.ne
  refine ⟨by rw [List.getElem?_append_left ne]; exact h.1, fun i a c h1 h2 => ?_⟩
  by_cases hi : i + 1 < bs.length
  · rw [List.getElem?_append_left (by omega)] at h1
    rw [List.getElem?_append_left hi] at h2
    exact h.2 i a c h1 h2
  · have l2 := at_lt h2
    rw [List.length_append, List.length_singleton] at l2
    have ei : i = bs.length - 1 := by omega
    subst ei
    rw [List.getElem?_append_left (by omega), hb] at h1
    rw [show bs.length - 1 + 1 = bs.length by omega, List.getElem?_append_right (Nat.le_refl _), Nat.sub_self] at h2
    cases h1
    cases h2
    exact n

/-! ### the temperatures at which stretches begin -/
theorem onn_hst (p : Par) : ∀ t, ∃ b, onn p t = hst (deg p t) p.lo p.hi b
  | 0 => ⟨p.on0, rfl⟩
  | t + 1 => ⟨onn p t, rfl⟩
theorem getD_mem {l : List Int} {i : Nat} (h : i < l.length) : l.getD i 0 ∈ l := by
  have e : l.getD i 0 = l[i] := by simp [List.getD, h]
  rw [e]
  exact List.getElem_mem h
theorem chAt_bd {p : Par} (ok : p.Ok) (t : Nat) : -100 ≤ chAt p.ch t ∧ chAt p.ch t ≤ 100 :=
  ok.chb _ (getD_mem (Nat.mod_lt _ (by have := ok.n1; omega)))
theorem nx_range {p : Par} (ok : p.Ok) {b e : Nat} (n : Nx p b e) : (onn p e = true → p.lo - 100 ≤ deg p e ∧ deg p e < p.lo) ∧ (onn p e = false → p.hi < deg p e ∧ deg p e ≤ p.hi + 300) := by
  obtain ⟨h1, r, h2⟩ := n
  obtain ⟨u, rfl⟩ : ∃ u, e = u + 1 := ⟨e - 1, by omega⟩
  have eu := r u (by omega) (by omega)
  rw [← eu] at h2
  obtain ⟨b', hb'⟩ := onn_hst p u
  have c := chAt_bd ok u
  have g1 := ok.g1
  have g2 := ok.g200
  have lh := ok.lohi
  have es : onn p (u + 1) = hst (deg p (u + 1)) p.lo p.hi (onn p u) := rfl
  have ed := deg_succ p u
  cases o : onn p u with
  | false =>
    rw [o] at h2 hb' es ed
    refine ⟨fun h3 => ?_, fun h3 => absurd h3 (by simpa using h2)⟩
    rw [h3] at es
    unfold hst at es hb'
    unfold gon at ed
    simp only [Bool.false_eq_true, if_false] at ed
    by_cases c1 : deg p (u + 1) < p.lo
    · by_cases c2 : deg p u < p.lo
      · rw [if_pos c2] at hb'; cases hb'
      · omega
    · rw [if_neg c1] at es
      split at es <;> cases es
  | true =>
    rw [o] at h2 hb' es ed
    refine ⟨fun h3 => absurd h3 (by simpa using h2), fun h3 => ?_⟩
    rw [h3] at es
    unfold hst at es hb'
    unfold gon at ed
    simp only [if_true] at ed
    by_cases c1 : deg p (u + 1) < p.lo
    · rw [if_pos c1] at es; cases es
    · rw [if_neg c1] at es
      by_cases c2 : deg p (u + 1) > p.hi
      · by_cases c3 : deg p u < p.lo
        · omega
        · rw [if_neg c3] at hb'
          by_cases c4 : deg p u > p.hi
          · rw [if_pos c4] at hb'; cases hb'
          · omega
      · rw [if_neg c2] at es; cases es
/-! ### few stretches -/
theorem pigeon : ∀ (M : Nat) {l : List Nat}, l.Nodup → (∀ x ∈ l, x < M) → l.length ≤ M
  | 0, l, _, h => by
    cases l with
    | nil => simp
    | cons a r => exact absurd (h a List.mem_cons_self) (by omega)
  | M + 1, l, nd, h => by
    by_cases c : M ∈ l
    · have := pigeon M (l := l.erase M) (nd.erase M) (fun x hx => by
        have := (nd.mem_erase_iff).mp hx
        have := h x this.2
        omega)
      rw [List.length_erase_of_mem c] at this
      omega
    · have := pigeon M nd (fun x hx => by
        have := h x hx
        have : x ≠ M := fun e => c (e ▸ hx)
        omega)
      omega
def code (p : Par) (t : Nat) : Nat := if onn p t then (t % p.ch.length) * 100 + (p.lo - 1 - deg p t).toNat else 2400 + (t % p.ch.length) * 300 + (deg p t - p.hi - 1).toNat
def Rng (p : Par) (e : Nat) : Prop := (onn p e = true → p.lo - 100 ≤ deg p e ∧ deg p e < p.lo) ∧ (onn p e = false → p.hi < deg p e ∧ deg p e ≤ p.hi + 300)
theorem code_lt {p : Par} (ok : p.Ok) {t : Nat} (r : Rng p t) : code p t < 9600 := by
  have l := Nat.mod_lt t (show 0 < p.ch.length by have := ok.n1; omega)
  have := ok.n24
  unfold code
  cases o : onn p t
  · have := r.2 o; simp; omega
  · have := r.1 o; simp; omega
theorem code_inj {p : Par} (ok : p.Ok) {t u : Nat} (r : Rng p t) (r' : Rng p u) (h : code p t = code p u) : stt p t = stt p u := by
  have l := Nat.mod_lt t (show 0 < p.ch.length by have := ok.n1; omega)
  have l' := Nat.mod_lt u (show 0 < p.ch.length by have := ok.n1; omega)
  have := ok.n24
  unfold code at h
  unfold stt
  cases o : onn p t <;> cases o' : onn p u <;> rw [o, o'] at h
  · have a := r.2 o
    have b := r'.2 o'
    simp at h
    have e1 : t % p.ch.length = u % p.ch.length := by omega
    have e2 : deg p t = deg p u := by omega
    rw [e1, e2]
  · have a := r.2 o
    have b := r'.1 o'
    simp at h
    omega
  · have a := r.1 o
    have b := r'.2 o'
    simp at h
    omega
  · have a := r.1 o
    have b := r'.1 o'
    simp at h
    have e1 : t % p.ch.length = u % p.ch.length := by omega
    have e2 : deg p t = deg p u := by omega
    rw [e1, e2]
/-- the first m begins have different states -/
def Dis (p : Par) (bs : List Nat) (m : Nat) : Prop := ∀ i j a c, i < j → j < m → bs[i]? = some a → bs[j]? = some c → stt p a ≠ stt p c
theorem few {p : Par} (ok : p.Ok) {bs : List Nat} (h : Chain p bs) {m : Nat} (hm : m ≤ bs.length) (d : Dis p bs m) : m ≤ 9601 := by
  have key := pigeon 9600 (l := ((bs.take m).drop 1).map (code p)) ?_ ?_
  · simp only [List.length_map, List.length_drop, List.length_take] at key
    omega
  · rw [List.nodup_iff_pairwise_ne, List.pairwise_map, List.pairwise_iff_getElem]
    intro i j hi hj hij
    simp only [List.length_drop, List.length_take] at hi hj
    simp only [List.getElem_drop, List.getElem_take]
    intro e
    have hr : ∀ k, (hk : 1 + k < bs.length) → Rng p bs[1 + k] := fun k hk =>
      nx_range ok (h.2 k bs[k] bs[1 + k] (by simp [show k < bs.length by omega]) (by rw [Nat.add_comm k 1]; simp [hk]))
    exact d (1 + i) (1 + j) bs[1 + i] bs[1 + j] (by omega) (by omega) (by simp [show 1 + i < bs.length by omega]) (by simp [show 1 + j < bs.length by omega]) (code_inj ok (hr i (by omega)) (hr j (by omega)) e)
  · intro x hx
    obtain ⟨y, hy, rfl⟩ := List.mem_map.mp hx
    obtain ⟨k, hk, rfl⟩ := List.mem_iff_getElem.mp hy
    simp only [List.length_drop, List.length_take] at hk
    simp only [List.getElem_drop, List.getElem_take]
    exact code_lt ok (nx_range ok (h.2 k bs[k] bs[1 + k] (by simp [show k < bs.length by omega]) (by rw [Nat.add_comm k 1]; simp [show 1 + k < bs.length by omega])))

/-! ### how long a stretch can be -/
def SB : Nat := 50000000000000
/-- a begin: the start, or where the heater has just switched -/
def Beg (p : Par) (b : Nat) : Prop := b = 0 ∨ Rng p b
theorem beg_deg {p : Par} (ok : p.Ok) {b : Nat} (h : Beg p b) : (onn p b = true → -1000000000100 ≤ deg p b) ∧ (onn p b = false → deg p b ≤ 1000000000300) := by
  have := ok.lob
  have := ok.hib
  have := ok.st1
  have := ok.st2
  rcases h with rfl | h
  · have e : deg p 0 = p.st := rfl
    rw [e]
    constructor <;> intro _ <;> omega
  · constructor
    · intro o; have := h.1 o; omega
    · intro o; have := h.2 o; omega
def sgB (p : Par) (b : Nat) : Int := sgnOf (onn p b)
def bdB (p : Par) (b : Nat) : Int := bndOf p (onn p b)
def ggB (p : Par) (b : Nat) : Int := gon p.g (onn p b)
def baB (p : Par) (b : Nat) : Int := deg p b - sumTo p.ch (ggB p b) b
theorem Dg_B (p : Par) (b t : Nat) : Dg p.ch (ggB p b) (baB p b) t = DD p b t := by
  unfold Dg baB DD ggB
  omega
theorem late {p : Par} (ok : p.Ok) {b e : Nat} (hb : Beg p b) (h : FB p.ch (ggB p b) (baB p b) b (sgB p b) (bdB p b) (some e)) : e ≤ b + SB := by
  have n1 := ok.n1
  have n24 := ok.n24
  by_cases hg : sgB p b * (bdB p b - Dg p.ch (ggB p b) (baB p b) (b + 1)) < 0
  · obtain ⟨h1, h2, h3⟩ := h
    have : e ≤ b + 1 := Nat.le_of_not_lt fun hlt => h3 (b + 1) (by omega) hlt hg
    unfold SB
    omega
  · by_cases hs : 0 < sgB p b * rsum p.ch (ggB p b)
    · have l := fb_late n1 hs h (by omega)
      have gp : sgB p b * (bdB p b - Dg p.ch (ggB p b) (baB p b) (b + 1)) ≤ 2000000000500 := by
        rw [Dg_B]
        have c := chAt_bd ok b
        have bd := beg_deg ok hb
        have := ok.g1
        have := ok.g200
        have := ok.lob
        have := ok.hib
        have es : sumTo p.ch (gon p.g (onn p b)) (b + 1) = sumTo p.ch (gon p.g (onn p b)) b + chAt p.ch b + gon p.g (onn p b) := rfl
        unfold DD
        rw [es]
        cases o : onn p b
        · have q := bd.2 o
          unfold sgB bdB sgnOf bndOf gon
          rw [o]
          simp
          omega
        · have q := bd.1 o
          unfold sgB bdB sgnOf bndOf gon
          rw [o]
          simp
          omega
      unfold cand at l
      rw [Nat.add_zero] at l
      generalize sgB p b * (bdB p b - Dg p.ch (ggB p b) (baB p b) (b + 1)) = gap at *
      generalize sgB p b * rsum p.ch (ggB p b) = sp at *
      have q1 : gap / sp ≤ gap := Int.ediv_le_self _ (by omega)
      have q2 : (gap / sp + 1).toNat ≤ 2000000000501 := by omega
      have q3 := Nat.mul_le_mul q2 n24
      unfold SB
      omega
    · obtain ⟨h1, h2, h3⟩ := h
      have : e ≤ b + p.ch.length := Nat.le_of_not_lt fun hlt => by
        refine fb_none (b := b) (bound := bdB p b) (base := baB p b) n1 (show sgB p b * rsum p.ch (ggB p b) ≤ 0 by omega) (fun i hi => h3 (b + 1 + i) (by omega) (by omega)) e h1 h2
      unfold SB
      omega
/-- FB says when the heater switches -/
theorem fb_nx {p : Par} (ok : p.Ok) {b e : Nat} (h : FB p.ch (ggB p b) (baB p b) b (sgB p b) (bdB p b) (some e)) : Nx p b e := by
  obtain ⟨h1, h2, h3⟩ := h
  refine nx_of ok.lohi h1 (fun t a c => ?_) ?_
  · have := h3 t a c; rw [Dg_B] at this; exact this
  · rw [Dg_B] at h2; exact h2
theorem fb_nev {p : Par} (ok : p.Ok) {b : Nat} (h : FB p.ch (ggB p b) (baB p b) b (sgB p b) (bdB p b) none) : Nev p b := by
  refine nev_of ok.lohi (fun t a => ?_)
  have := h t a; rw [Dg_B] at this; exact this
theorem chain_beg {p : Par} (ok : p.Ok) {bs : List Nat} (h : Chain p bs) {i b : Nat} (hi : bs[i]? = some b) : Beg p b := by
  cases i with
  | zero => rw [h.1] at hi; cases hi; exact .inl rfl
  | succ i =>
    obtain ⟨a, ha⟩ := at_some (bs := bs) (i := i) (by have := at_lt hi; omega)
    exact .inr (nx_range ok (h.2 i a b ha hi))
end Th

namespace W6
open PySem PySem.Spec PyProof.Rows L2
def top (i : Nat) : Stmt := PySem.Challenge.pw_warmswitch_k45_whole_far_costs.main.body.getD i (.Pass ⟨0, 0, 0, 0⟩)
abbrev s_check_number : Stmt := top 8
abbrev s_first_invalid : Stmt := top 10
abbrev s_sum_of_first : Stmt := top 11
abbrev s_added_rounds : Stmt := top 13
abbrev s_Weather_init : Stmt := inClass (top 16) 2
abbrev s_Weather_len : Stmt := inClass (top 16) 5
abbrev s_Weather_add : Stmt := inClass (top 16) 10
abbrev s_Weather_mul : Stmt := inClass (top 16) 13
abbrev s_Prices_init : Stmt := inClass (top 19) 2
abbrev s_heating_cost : Stmt := top 20
abbrev s_first_over : Stmt := top 21
abbrev s_cost_share : Stmt := top 22
abbrev s_lowest_terms : Stmt := top 24
abbrev s_Timeline_init : Stmt := inClass (top 25) 0
abbrev s_Timeline_ticks_of_round : Stmt := inClass (top 25) 1
abbrev s_Timeline_begin_of : Stmt := inClass (top 25) 2
abbrev s_Timeline_place : Stmt := inClass (top 25) 3
abbrev s_Timeline_number_at : Stmt := inClass (top 25) 4
abbrev s_Timeline_in_rounds_of : Stmt := inClass (top 25) 6
abbrev s_HeatingSum_init : Stmt := inClass (top 26) 0
abbrev s_HeatingSum_is_on : Stmt := inClass (top 26) 1
abbrev s_HeatingSum_sum_within : Stmt := inClass (top 26) 2
abbrev s_HeatingSum_sum_before : Stmt := inClass (top 26) 3
abbrev s_HeatingSum_sum_of_round : Stmt := inClass (top 26) 4
abbrev s_HeatingSum_share : Stmt := inClass (top 26) 5
abbrev s_Drift_init : Stmt := inClass (top 28) 0
abbrev s_Drift_sum_to : Stmt := inClass (top 28) 1
abbrev s_both_drifts : Stmt := top 29
abbrev s_Stretch_init : Stmt := inClass (top 30) 0
abbrev s_Stretch_degrees_at : Stmt := inClass (top 30) 1
abbrev s_Stretch_begin_state : Stmt := inClass (top 30) 2
abbrev s_Stretch_switched : Stmt := inClass (top 30) 4
abbrev s_Stretch_level_ticks : Stmt := inClass (top 30) 5
abbrev s_Stretch_first_beyond : Stmt := inClass (top 30) 6
abbrev s_heater_state : Stmt := top 32
abbrev s_Course_init : Stmt := inClass (top 33) 0
abbrev s_Course_follow : Stmt := inClass (top 33) 1
abbrev s_Course_end_of : Stmt := inClass (top 33) 2
abbrev s_Course_on_in : Stmt := inClass (top 33) 4
abbrev s_Course_heating_sum : Stmt := inClass (top 33) 5
abbrev s_Course_heated_before : Stmt := inClass (top 33) 6
abbrev s_Course_recurrence : Stmt := inClass (top 33) 11
abbrev s_check_gain : Stmt := top 37
abbrev s_can_be_thresholds : Stmt := top 38
abbrev s_Heater_init : Stmt := inClass (top 39) 0
abbrev s_Room_init : Stmt := inClass (top 40) 0
abbrev s_Room_is_on : Stmt := inClass (top 40) 9
abbrev s_Room_heating_ticks : Stmt := inClass (top 40) 10
abbrev s__law_start : Stmt := top 42
abbrev s__law_drawn : Stmt := top 43
abbrev s__law_changes : Stmt := top 45
abbrev s__law_weather : Stmt := top 46
abbrev s__law_single : Stmt := top 47
abbrev s__law_prices : Stmt := top 48
abbrev s__law_cents : Stmt := top 49
abbrev s__law_is_lowest : Stmt := top 50
abbrev s_law : Stmt := top 51
abbrev s_Weather_changes : Stmt := inClass (top 16) 4
abbrev s_Prices_cents : Stmt := inClass (top 19) 3
abbrev s_Heater_gain : Stmt := inClass (top 39) 1
abbrev s_Heater_low : Stmt := inClass (top 39) 2
abbrev s_Heater_high : Stmt := inClass (top 39) 3
abbrev s_Room_repetition : Stmt := inClass (top 40) 4
theorem sc_check_number : FnScope ["number", "least", "greatest"] ["number", "least", "greatest"] (defScope s_check_number) := ⟨rfl, rfl, rfl, by decide +kernel, rfl, by decide +kernel, by decide +kernel⟩
theorem sc_first_invalid : FnScope ["values", "least", "greatest", "most", "index", "value"] ["values", "least", "greatest", "most"] (defScope s_first_invalid) := ⟨rfl, rfl, rfl, by decide +kernel, rfl, by decide +kernel, by decide +kernel⟩
theorem sc_sum_of_first : FnScope ["values", "count", "rounds", "rest"] ["values", "count"] (defScope s_sum_of_first) := ⟨rfl, rfl, rfl, by decide +kernel, rfl, by decide +kernel, by decide +kernel⟩
theorem sc_added_rounds : FnScope ["one", "other", "many", "tick"] ["one", "other"] (defScope s_added_rounds) := ⟨rfl, rfl, rfl, by decide +kernel, rfl, by decide +kernel, by decide +kernel⟩
theorem sc_Weather_init : FnScope ["self", "changes", "index"] ["self", "changes"] (defScope s_Weather_init) := ⟨rfl, rfl, rfl, by decide +kernel, rfl, by decide +kernel, by decide +kernel⟩
theorem sc_Weather_len : FnScope ["self"] ["self"] (defScope s_Weather_len) := ⟨rfl, rfl, rfl, by decide +kernel, rfl, by decide +kernel, by decide +kernel⟩
theorem sc_Weather_add : FnScope ["self", "other", "both"] ["self", "other"] (defScope s_Weather_add) := ⟨rfl, rfl, rfl, by decide +kernel, rfl, by decide +kernel, by decide +kernel⟩
theorem sc_Weather_mul : FnScope ["self", "times", "multiplied", "change"] ["self", "times"] (defScope s_Weather_mul) := ⟨rfl, rfl, rfl, by decide +kernel, rfl, by decide +kernel, by decide +kernel⟩
theorem sc_Prices_init : FnScope ["self", "cents", "index"] ["self", "cents"] (defScope s_Prices_init) := ⟨rfl, rfl, rfl, by decide +kernel, rfl, by decide +kernel, by decide +kernel⟩
theorem sc_heating_cost : FnScope ["room", "prices", "count"] ["room", "prices", "count"] (defScope s_heating_cost) := ⟨rfl, rfl, rfl, by decide +kernel, rfl, by decide +kernel, by decide +kernel⟩
theorem sc_first_over : FnScope ["room", "prices", "budget", "costs", "within", "over", "middle"] ["room", "prices", "budget"] (defScope s_first_over) := ⟨rfl, rfl, rfl, by decide +kernel, rfl, by decide +kernel, by decide +kernel⟩
theorem sc_cost_share : FnScope ["room", "prices"] ["room", "prices"] (defScope s_cost_share) := ⟨rfl, rfl, rfl, by decide +kernel, rfl, by decide +kernel, by decide +kernel⟩
theorem sc_lowest_terms : FnScope ["numerator", "denominator", "common"] ["numerator", "denominator"] (defScope s_lowest_terms) := ⟨rfl, rfl, rfl, by decide +kernel, rfl, by decide +kernel, by decide +kernel⟩
theorem sc_Timeline_init : FnScope ["self", "begins", "back"] ["self", "begins", "back"] (defScope s_Timeline_init) := ⟨rfl, rfl, rfl, by decide +kernel, rfl, by decide +kernel, by decide +kernel⟩
theorem sc_Timeline_ticks_of_round : FnScope ["self"] ["self"] (defScope s_Timeline_ticks_of_round) := ⟨rfl, rfl, rfl, by decide +kernel, rfl, by decide +kernel, by decide +kernel⟩
theorem sc_Timeline_begin_of : FnScope ["self", "number", "rounds", "rest"] ["self", "number"] (defScope s_Timeline_begin_of) := ⟨rfl, rfl, rfl, by decide +kernel, rfl, by decide +kernel, by decide +kernel⟩
theorem sc_Timeline_place : FnScope ["self", "tick", "rounds", "first", "rest"] ["self", "tick"] (defScope s_Timeline_place) := ⟨rfl, rfl, rfl, by decide +kernel, rfl, by decide +kernel, by decide +kernel⟩
theorem sc_Timeline_number_at : FnScope ["self", "tick", "least", "greatest", "middle"] ["self", "tick"] (defScope s_Timeline_number_at) := ⟨rfl, rfl, rfl, by decide +kernel, rfl, by decide +kernel, by decide +kernel⟩
theorem sc_Timeline_in_rounds_of : FnScope ["self", "ticks", "times", "last", "number"] ["self", "ticks"] (defScope s_Timeline_in_rounds_of) := ⟨rfl, rfl, rfl, by decide +kernel, rfl, by decide +kernel, by decide +kernel⟩
theorem sc_HeatingSum_init : FnScope ["self", "timeline", "on", "amounts", "number", "end"] ["self", "timeline", "on", "amounts"] (defScope s_HeatingSum_init) := ⟨rfl, rfl, rfl, by decide +kernel, rfl, by decide +kernel, by decide +kernel⟩
theorem sc_HeatingSum_is_on : FnScope ["self", "number"] ["self", "number"] (defScope s_HeatingSum_is_on) := ⟨rfl, rfl, rfl, by decide +kernel, rfl, by decide +kernel, by decide +kernel⟩
theorem sc_HeatingSum_sum_within : FnScope ["self", "number", "end", "begin"] ["self", "number", "end"] (defScope s_HeatingSum_sum_within) := ⟨rfl, rfl, rfl, by decide +kernel, rfl, by decide +kernel, by decide +kernel⟩
theorem sc_HeatingSum_sum_before : FnScope ["self", "tick", "rounds", "number", "place", "found"] ["self", "tick"] (defScope s_HeatingSum_sum_before) := ⟨rfl, rfl, rfl, by decide +kernel, rfl, by decide +kernel, by decide +kernel⟩
theorem sc_HeatingSum_sum_of_round : FnScope ["self"] ["self"] (defScope s_HeatingSum_sum_of_round) := ⟨rfl, rfl, rfl, by decide +kernel, rfl, by decide +kernel, by decide +kernel⟩
theorem sc_HeatingSum_share : FnScope ["self"] ["self"] (defScope s_HeatingSum_share) := ⟨rfl, rfl, rfl, by decide +kernel, rfl, by decide +kernel, by decide +kernel⟩
theorem sc_Drift_init : FnScope ["self", "changes", "gain", "ticks"] ["self", "changes", "gain"] (defScope s_Drift_init) := ⟨rfl, rfl, rfl, by decide +kernel, rfl, by decide +kernel, by decide +kernel⟩
theorem sc_Drift_sum_to : FnScope ["self", "tick", "rounds", "rest"] ["self", "tick"] (defScope s_Drift_sum_to) := ⟨rfl, rfl, rfl, by decide +kernel, rfl, by decide +kernel, by decide +kernel⟩
theorem sc_both_drifts : FnScope ["changes", "gain"] ["changes", "gain"] (defScope s_both_drifts) := ⟨rfl, rfl, rfl, by decide +kernel, rfl, by decide +kernel, by decide +kernel⟩
theorem sc_Stretch_init : FnScope ["self", "drifts", "on", "begin", "degrees"] ["self", "drifts", "on", "begin", "degrees"] (defScope s_Stretch_init) := ⟨rfl, rfl, rfl, by decide +kernel, rfl, by decide +kernel, by decide +kernel⟩
theorem sc_Stretch_degrees_at : FnScope ["self", "tick"] ["self", "tick"] (defScope s_Stretch_degrees_at) := ⟨rfl, rfl, rfl, by decide +kernel, rfl, by decide +kernel, by decide +kernel⟩
theorem sc_Stretch_begin_state : FnScope ["self"] ["self"] (defScope s_Stretch_begin_state) := ⟨rfl, rfl, rfl, by decide +kernel, rfl, by decide +kernel, by decide +kernel⟩
theorem sc_Stretch_switched : FnScope ["self", "tick"] ["self", "tick"] (defScope s_Stretch_switched) := ⟨rfl, rfl, rfl, by decide +kernel, rfl, by decide +kernel, by decide +kernel⟩
theorem sc_Stretch_level_ticks : FnScope ["self"] ["self"] (defScope s_Stretch_level_ticks) := ⟨rfl, rfl, rfl, by decide +kernel, rfl, by decide +kernel, by decide +kernel⟩
theorem sc_Stretch_first_beyond : FnScope ["self", "bound", "sign", "ticks", "speed", "found", "tick", "gap"] ["self", "bound", "sign"] (defScope s_Stretch_first_beyond) := ⟨rfl, rfl, rfl, by decide +kernel, rfl, by decide +kernel, by decide +kernel⟩
theorem sc_heater_state : FnScope ["degrees", "low", "high", "before"] ["degrees", "low", "high", "before"] (defScope s_heater_state) := ⟨rfl, rfl, rfl, by decide +kernel, rfl, by decide +kernel, by decide +kernel⟩
theorem sc_Course_init : FnScope ["self", "changes", "gain", "low", "high", "start", "on", "state", "back", "stretch"] ["self", "changes", "gain", "low", "high", "start", "on"] (defScope s_Course_init) := ⟨rfl, rfl, rfl, by decide +kernel, rfl, by decide +kernel, by decide +kernel⟩
theorem sc_Course_follow : FnScope ["self", "stretch", "known", "number", "state", "end"] ["self", "stretch"] (defScope s_Course_follow) := ⟨rfl, rfl, rfl, by decide +kernel, rfl, by decide +kernel, by decide +kernel⟩
theorem sc_Course_end_of : FnScope ["self", "stretch"] ["self", "stretch"] (defScope s_Course_end_of) := ⟨rfl, rfl, rfl, by decide +kernel, rfl, by decide +kernel, by decide +kernel⟩
theorem sc_Course_on_in : FnScope ["self", "tick", "place"] ["self", "tick"] (defScope s_Course_on_in) := ⟨rfl, rfl, rfl, by decide +kernel, rfl, by decide +kernel, by decide +kernel⟩
theorem sc_Course_heating_sum : FnScope ["self", "amounts"] ["self", "amounts"] (defScope s_Course_heating_sum) := ⟨rfl, rfl, rfl, by decide +kernel, rfl, by decide +kernel, by decide +kernel⟩
theorem sc_Course_heated_before : FnScope ["self", "tick"] ["self", "tick"] (defScope s_Course_heated_before) := ⟨rfl, rfl, rfl, by decide +kernel, rfl, by decide +kernel, by decide +kernel⟩
theorem sc_Course_recurrence : FnScope ["self", "last", "back", "ticks", "first", "before"] ["self"] (defScope s_Course_recurrence) := ⟨rfl, rfl, rfl, by decide +kernel, rfl, by decide +kernel, by decide +kernel⟩
theorem sc_check_gain : FnScope ["gain"] ["gain"] (defScope s_check_gain) := ⟨rfl, rfl, rfl, by decide +kernel, rfl, by decide +kernel, by decide +kernel⟩
theorem sc_can_be_thresholds : FnScope ["low", "high"] ["low", "high"] (defScope s_can_be_thresholds) := ⟨rfl, rfl, rfl, by decide +kernel, rfl, by decide +kernel, by decide +kernel⟩
theorem sc_Heater_init : FnScope ["self", "gain", "low", "high"] ["self", "gain", "low", "high"] (defScope s_Heater_init) := ⟨rfl, rfl, rfl, by decide +kernel, rfl, by decide +kernel, by decide +kernel⟩
theorem sc_Room_init : FnScope ["self", "weather", "heater", "start", "on"] ["self", "weather", "heater", "start", "on"] (defScope s_Room_init) := ⟨rfl, rfl, rfl, by decide +kernel, rfl, by decide +kernel, by decide +kernel⟩
theorem sc_Room_is_on : FnScope ["self", "tick"] ["self", "tick"] (defScope s_Room_is_on) := ⟨rfl, rfl, rfl, by decide +kernel, rfl, by decide +kernel, by decide +kernel⟩
theorem sc_Room_heating_ticks : FnScope ["self", "count"] ["self", "count"] (defScope s_Room_heating_ticks) := ⟨rfl, rfl, rfl, by decide +kernel, rfl, by decide +kernel, by decide +kernel⟩
theorem sc__law_start : FnScope ["_law_script", "_law_mixed", "_law_cell"] ["_law_script"] (defScope s__law_start) := ⟨rfl, rfl, rfl, by decide +kernel, rfl, by decide +kernel, by decide +kernel⟩
theorem sc__law_drawn : FnScope ["_law_state", "_law_count", "_law_result", "_law_cell"] ["_law_state", "_law_count"] (defScope s__law_drawn) := ⟨rfl, rfl, rfl, by decide +kernel, rfl, by decide +kernel, by decide +kernel⟩
theorem sc__law_changes : FnScope ["_law_state", "_law_most", "_law_high", "_law_k"] ["_law_state", "_law_most"] (defScope s__law_changes) := ⟨rfl, rfl, rfl, by decide +kernel, rfl, by decide +kernel, by decide +kernel⟩
theorem sc__law_weather : FnScope ["_law_changes_here", "_law_result", "_law_k"] ["_law_changes_here"] (defScope s__law_weather) := ⟨rfl, rfl, rfl, by decide +kernel, rfl, by decide +kernel, by decide +kernel⟩
theorem sc__law_single : FnScope ["_law_size", "_law_at", "_law_parts", "_law_k"] ["_law_size", "_law_at"] (defScope s__law_single) := ⟨rfl, rfl, rfl, by decide +kernel, rfl, by decide +kernel, by decide +kernel⟩
theorem sc__law_prices : FnScope ["_law_cents_here"] ["_law_cents_here"] (defScope s__law_prices) := ⟨rfl, rfl, rfl, by decide +kernel, rfl, by decide +kernel, by decide +kernel⟩
theorem sc__law_cents : FnScope ["_law_state", "_law_k"] ["_law_state"] (defScope s__law_cents) := ⟨rfl, rfl, rfl, by decide +kernel, rfl, by decide +kernel, by decide +kernel⟩
theorem sc__law_is_lowest : FnScope ["_law_numerator", "_law_denominator", "_law_small", "_law_k"] ["_law_numerator", "_law_denominator"] (defScope s__law_is_lowest) := ⟨rfl, rfl, rfl, by decide +kernel, rfl, by decide +kernel, by decide +kernel⟩
theorem sc_law : FnScope ["_law_script", "_law_state", "_law_turn", "_law_sky", "_law_gain", "_law_low", "_law_high", "_law_start_here", "_law_room", "_law_cents_here", "_law_prices_here", "_law_count", "_law_tick", "_law_step", "_law_price", "_law_ticks", "_law_first", "_law_period", "_law_whole", "_law_grown", "_law_budget", "_law_over"] ["_law_script"] (defScope s_law) := ⟨rfl, rfl, rfl, by decide +kernel, rfl, by decide +kernel, by decide +kernel⟩
theorem sc_Weather_changes : FnScope ["self"] ["self"] (defScope s_Weather_changes) := ⟨rfl, rfl, rfl, by decide +kernel, rfl, by decide +kernel, by decide +kernel⟩
theorem sc_Prices_cents : FnScope ["self"] ["self"] (defScope s_Prices_cents) := ⟨rfl, rfl, rfl, by decide +kernel, rfl, by decide +kernel, by decide +kernel⟩
theorem sc_Heater_gain : FnScope ["self"] ["self"] (defScope s_Heater_gain) := ⟨rfl, rfl, rfl, by decide +kernel, rfl, by decide +kernel, by decide +kernel⟩
theorem sc_Heater_low : FnScope ["self"] ["self"] (defScope s_Heater_low) := ⟨rfl, rfl, rfl, by decide +kernel, rfl, by decide +kernel, by decide +kernel⟩
theorem sc_Heater_high : FnScope ["self"] ["self"] (defScope s_Heater_high) := ⟨rfl, rfl, rfl, by decide +kernel, rfl, by decide +kernel, by decide +kernel⟩
theorem sc_Room_repetition : FnScope ["self"] ["self"] (defScope s_Room_repetition) := ⟨rfl, rfl, rfl, by decide +kernel, rfl, by decide +kernel, by decide +kernel⟩
/-- where things stand -/
structure Ad where
  c_Weather : Addr
  c_Prices : Addr
  c_Timeline : Addr
  c_HeatingSum : Addr
  c_Drift : Addr
  c_Stretch : Addr
  c_Course : Addr
  c_Heater : Addr
  c_Room : Addr
  f_check_number : Addr
  d_check_number : FuncData
  f_first_invalid : Addr
  d_first_invalid : FuncData
  f_sum_of_first : Addr
  d_sum_of_first : FuncData
  f_added_rounds : Addr
  d_added_rounds : FuncData
  f_Weather_init : Addr
  d_Weather_init : FuncData
  f_Weather_len : Addr
  d_Weather_len : FuncData
  f_Weather_add : Addr
  d_Weather_add : FuncData
  f_Weather_mul : Addr
  d_Weather_mul : FuncData
  f_Prices_init : Addr
  d_Prices_init : FuncData
  f_heating_cost : Addr
  d_heating_cost : FuncData
  f_first_over : Addr
  d_first_over : FuncData
  f_cost_share : Addr
  d_cost_share : FuncData
  f_lowest_terms : Addr
  d_lowest_terms : FuncData
  f_Timeline_init : Addr
  d_Timeline_init : FuncData
  f_Timeline_ticks_of_round : Addr
  d_Timeline_ticks_of_round : FuncData
  f_Timeline_begin_of : Addr
  d_Timeline_begin_of : FuncData
  f_Timeline_place : Addr
  d_Timeline_place : FuncData
  f_Timeline_number_at : Addr
  d_Timeline_number_at : FuncData
  f_Timeline_in_rounds_of : Addr
  d_Timeline_in_rounds_of : FuncData
  f_HeatingSum_init : Addr
  d_HeatingSum_init : FuncData
  f_HeatingSum_is_on : Addr
  d_HeatingSum_is_on : FuncData
  f_HeatingSum_sum_within : Addr
  d_HeatingSum_sum_within : FuncData
  f_HeatingSum_sum_before : Addr
  d_HeatingSum_sum_before : FuncData
  f_HeatingSum_sum_of_round : Addr
  d_HeatingSum_sum_of_round : FuncData
  f_HeatingSum_share : Addr
  d_HeatingSum_share : FuncData
  f_Drift_init : Addr
  d_Drift_init : FuncData
  f_Drift_sum_to : Addr
  d_Drift_sum_to : FuncData
  f_both_drifts : Addr
  d_both_drifts : FuncData
  f_Stretch_init : Addr
  d_Stretch_init : FuncData
  f_Stretch_degrees_at : Addr
  d_Stretch_degrees_at : FuncData
  f_Stretch_begin_state : Addr
  d_Stretch_begin_state : FuncData
  f_Stretch_switched : Addr
  d_Stretch_switched : FuncData
  f_Stretch_level_ticks : Addr
  d_Stretch_level_ticks : FuncData
  f_Stretch_first_beyond : Addr
  d_Stretch_first_beyond : FuncData
  f_heater_state : Addr
  d_heater_state : FuncData
  f_Course_init : Addr
  d_Course_init : FuncData
  f_Course_follow : Addr
  d_Course_follow : FuncData
  f_Course_end_of : Addr
  d_Course_end_of : FuncData
  f_Course_on_in : Addr
  d_Course_on_in : FuncData
  f_Course_heating_sum : Addr
  d_Course_heating_sum : FuncData
  f_Course_heated_before : Addr
  d_Course_heated_before : FuncData
  f_Course_recurrence : Addr
  d_Course_recurrence : FuncData
  f_check_gain : Addr
  d_check_gain : FuncData
  f_can_be_thresholds : Addr
  d_can_be_thresholds : FuncData
  f_Heater_init : Addr
  d_Heater_init : FuncData
  f_Room_init : Addr
  d_Room_init : FuncData
  f_Room_is_on : Addr
  d_Room_is_on : FuncData
  f_Room_heating_ticks : Addr
  d_Room_heating_ticks : FuncData
  f__law_start : Addr
  d__law_start : FuncData
  f__law_drawn : Addr
  d__law_drawn : FuncData
  f__law_changes : Addr
  d__law_changes : FuncData
  f__law_weather : Addr
  d__law_weather : FuncData
  f__law_single : Addr
  d__law_single : FuncData
  f__law_prices : Addr
  d__law_prices : FuncData
  f__law_cents : Addr
  d__law_cents : FuncData
  f__law_is_lowest : Addr
  d__law_is_lowest : FuncData
  f_law : Addr
  d_law : FuncData
  f_Weather_changes : Addr
  d_Weather_changes : FuncData
  f_Prices_cents : Addr
  d_Prices_cents : FuncData
  f_Heater_gain : Addr
  d_Heater_gain : FuncData
  f_Heater_low : Addr
  d_Heater_low : FuncData
  f_Heater_high : Addr
  d_Heater_high : FuncData
  f_Room_repetition : Addr
  d_Room_repetition : FuncData
  p_Weather_changes : Addr
  p_Prices_cents : Addr
  p_Heater_gain : Addr
  p_Heater_low : Addr
  p_Heater_high : Addr
  p_Room_repetition : Addr
/-- what the written part says -/
structure Txt (K : PySem.W.Frag) (mg : Str → Option Value) (a : Ad) : Prop where
  cl_Weather : Cls K a.c_Weather
  mg_Weather : mg "Weather" = some (.ref a.c_Weather)
  na_Weather__changes : NoAttr K a.c_Weather "_changes"
  cl_Prices : Cls K a.c_Prices
  mg_Prices : mg "Prices" = some (.ref a.c_Prices)
  na_Prices__cents : NoAttr K a.c_Prices "_cents"
  cl_Timeline : Cls K a.c_Timeline
  mg_Timeline : mg "Timeline" = some (.ref a.c_Timeline)
  na_Timeline_back : NoAttr K a.c_Timeline "back"
  na_Timeline_last : NoAttr K a.c_Timeline "last"
  na_Timeline__begins : NoAttr K a.c_Timeline "_begins"
  cl_HeatingSum : Cls K a.c_HeatingSum
  mg_HeatingSum : mg "HeatingSum" = some (.ref a.c_HeatingSum)
  na_HeatingSum__on : NoAttr K a.c_HeatingSum "_on"
  na_HeatingSum__amounts : NoAttr K a.c_HeatingSum "_amounts"
  na_HeatingSum__timeline : NoAttr K a.c_HeatingSum "_timeline"
  na_HeatingSum__sums : NoAttr K a.c_HeatingSum "_sums"
  cl_Drift : Cls K a.c_Drift
  mg_Drift : mg "Drift" = some (.ref a.c_Drift)
  na_Drift_round_ticks : NoAttr K a.c_Drift "round_ticks"
  na_Drift_round_sum : NoAttr K a.c_Drift "round_sum"
  na_Drift__sums : NoAttr K a.c_Drift "_sums"
  cl_Stretch : Cls K a.c_Stretch
  mg_Stretch : mg "Stretch" = some (.ref a.c_Stretch)
  na_Stretch_on : NoAttr K a.c_Stretch "on"
  na_Stretch_begin : NoAttr K a.c_Stretch "begin"
  na_Stretch__drifts : NoAttr K a.c_Stretch "_drifts"
  na_Stretch__drift : NoAttr K a.c_Stretch "_drift"
  na_Stretch__base : NoAttr K a.c_Stretch "_base"
  cl_Course : Cls K a.c_Course
  mg_Course : mg "Course" = some (.ref a.c_Course)
  na_Course__low : NoAttr K a.c_Course "_low"
  na_Course__high : NoAttr K a.c_Course "_high"
  na_Course__stretches : NoAttr K a.c_Course "_stretches"
  na_Course__timeline : NoAttr K a.c_Course "_timeline"
  na_Course__heating : NoAttr K a.c_Course "_heating"
  cl_Heater : Cls K a.c_Heater
  mg_Heater : mg "Heater" = some (.ref a.c_Heater)
  na_Heater__gain : NoAttr K a.c_Heater "_gain"
  na_Heater__low : NoAttr K a.c_Heater "_low"
  na_Heater__high : NoAttr K a.c_Heater "_high"
  cl_Room : Cls K a.c_Room
  mg_Room : mg "Room" = some (.ref a.c_Room)
  na_Room__weather : NoAttr K a.c_Room "_weather"
  na_Room__heater : NoAttr K a.c_Room "_heater"
  na_Room__start : NoAttr K a.c_Room "_start"
  na_Room_course : NoAttr K a.c_Room "course"
  na_Room__unswitched : NoAttr K a.c_Room "_unswitched"
  F_check_number : Fun K "check_number" "check_number" s_check_number a.f_check_number a.d_check_number
  mg_check_number : mg "check_number" = some (.ref a.f_check_number)
  F_first_invalid : Fun K "first_invalid" "first_invalid" s_first_invalid a.f_first_invalid a.d_first_invalid
  mg_first_invalid : mg "first_invalid" = some (.ref a.f_first_invalid)
  F_sum_of_first : Fun K "sum_of_first" "sum_of_first" s_sum_of_first a.f_sum_of_first a.d_sum_of_first
  mg_sum_of_first : mg "sum_of_first" = some (.ref a.f_sum_of_first)
  F_added_rounds : Fun K "added_rounds" "added_rounds" s_added_rounds a.f_added_rounds a.d_added_rounds
  mg_added_rounds : mg "added_rounds" = some (.ref a.f_added_rounds)
  F_Weather_init : Fun K "__init__" "Weather.__init__" s_Weather_init a.f_Weather_init a.d_Weather_init
  mk_Weather : Mk K a.c_Weather a.f_Weather_init
  F_Weather_len : Fun K "__len__" "Weather.__len__" s_Weather_len a.f_Weather_len a.d_Weather_len
  me_Weather_len : Meth K a.c_Weather "__len__" a.f_Weather_len
  F_Weather_add : Fun K "__add__" "Weather.__add__" s_Weather_add a.f_Weather_add a.d_Weather_add
  me_Weather_add : Meth K a.c_Weather "__add__" a.f_Weather_add
  F_Weather_mul : Fun K "__mul__" "Weather.__mul__" s_Weather_mul a.f_Weather_mul a.d_Weather_mul
  me_Weather_mul : Meth K a.c_Weather "__mul__" a.f_Weather_mul
  F_Prices_init : Fun K "__init__" "Prices.__init__" s_Prices_init a.f_Prices_init a.d_Prices_init
  mk_Prices : Mk K a.c_Prices a.f_Prices_init
  F_heating_cost : Fun K "heating_cost" "heating_cost" s_heating_cost a.f_heating_cost a.d_heating_cost
  mg_heating_cost : mg "heating_cost" = some (.ref a.f_heating_cost)
  F_first_over : Fun K "first_over" "first_over" s_first_over a.f_first_over a.d_first_over
  mg_first_over : mg "first_over" = some (.ref a.f_first_over)
  F_cost_share : Fun K "cost_share" "cost_share" s_cost_share a.f_cost_share a.d_cost_share
  mg_cost_share : mg "cost_share" = some (.ref a.f_cost_share)
  F_lowest_terms : Fun K "lowest_terms" "lowest_terms" s_lowest_terms a.f_lowest_terms a.d_lowest_terms
  mg_lowest_terms : mg "lowest_terms" = some (.ref a.f_lowest_terms)
  F_Timeline_init : Fun K "__init__" "Timeline.__init__" s_Timeline_init a.f_Timeline_init a.d_Timeline_init
  mk_Timeline : Mk K a.c_Timeline a.f_Timeline_init
  F_Timeline_ticks_of_round : Fun K "ticks_of_round" "Timeline.ticks_of_round" s_Timeline_ticks_of_round a.f_Timeline_ticks_of_round a.d_Timeline_ticks_of_round
  me_Timeline_ticks_of_round : Meth K a.c_Timeline "ticks_of_round" a.f_Timeline_ticks_of_round
  F_Timeline_begin_of : Fun K "begin_of" "Timeline.begin_of" s_Timeline_begin_of a.f_Timeline_begin_of a.d_Timeline_begin_of
  me_Timeline_begin_of : Meth K a.c_Timeline "begin_of" a.f_Timeline_begin_of
  F_Timeline_place : Fun K "place" "Timeline.place" s_Timeline_place a.f_Timeline_place a.d_Timeline_place
  me_Timeline_place : Meth K a.c_Timeline "place" a.f_Timeline_place
  F_Timeline_number_at : Fun K "_number_at" "Timeline._number_at" s_Timeline_number_at a.f_Timeline_number_at a.d_Timeline_number_at
  me_Timeline_number_at : Meth K a.c_Timeline "_number_at" a.f_Timeline_number_at
  F_Timeline_in_rounds_of : Fun K "in_rounds_of" "Timeline.in_rounds_of" s_Timeline_in_rounds_of a.f_Timeline_in_rounds_of a.d_Timeline_in_rounds_of
  me_Timeline_in_rounds_of : Meth K a.c_Timeline "in_rounds_of" a.f_Timeline_in_rounds_of
  F_HeatingSum_init : Fun K "__init__" "HeatingSum.__init__" s_HeatingSum_init a.f_HeatingSum_init a.d_HeatingSum_init
  mk_HeatingSum : Mk K a.c_HeatingSum a.f_HeatingSum_init
  F_HeatingSum_is_on : Fun K "_is_on" "HeatingSum._is_on" s_HeatingSum_is_on a.f_HeatingSum_is_on a.d_HeatingSum_is_on
  me_HeatingSum_is_on : Meth K a.c_HeatingSum "_is_on" a.f_HeatingSum_is_on
  F_HeatingSum_sum_within : Fun K "_sum_within" "HeatingSum._sum_within" s_HeatingSum_sum_within a.f_HeatingSum_sum_within a.d_HeatingSum_sum_within
  me_HeatingSum_sum_within : Meth K a.c_HeatingSum "_sum_within" a.f_HeatingSum_sum_within
  F_HeatingSum_sum_before : Fun K "sum_before" "HeatingSum.sum_before" s_HeatingSum_sum_before a.f_HeatingSum_sum_before a.d_HeatingSum_sum_before
  me_HeatingSum_sum_before : Meth K a.c_HeatingSum "sum_before" a.f_HeatingSum_sum_before
  F_HeatingSum_sum_of_round : Fun K "_sum_of_round" "HeatingSum._sum_of_round" s_HeatingSum_sum_of_round a.f_HeatingSum_sum_of_round a.d_HeatingSum_sum_of_round
  me_HeatingSum_sum_of_round : Meth K a.c_HeatingSum "_sum_of_round" a.f_HeatingSum_sum_of_round
  F_HeatingSum_share : Fun K "share" "HeatingSum.share" s_HeatingSum_share a.f_HeatingSum_share a.d_HeatingSum_share
  me_HeatingSum_share : Meth K a.c_HeatingSum "share" a.f_HeatingSum_share
  F_Drift_init : Fun K "__init__" "Drift.__init__" s_Drift_init a.f_Drift_init a.d_Drift_init
  mk_Drift : Mk K a.c_Drift a.f_Drift_init
  F_Drift_sum_to : Fun K "sum_to" "Drift.sum_to" s_Drift_sum_to a.f_Drift_sum_to a.d_Drift_sum_to
  me_Drift_sum_to : Meth K a.c_Drift "sum_to" a.f_Drift_sum_to
  F_both_drifts : Fun K "both_drifts" "both_drifts" s_both_drifts a.f_both_drifts a.d_both_drifts
  mg_both_drifts : mg "both_drifts" = some (.ref a.f_both_drifts)
  F_Stretch_init : Fun K "__init__" "Stretch.__init__" s_Stretch_init a.f_Stretch_init a.d_Stretch_init
  mk_Stretch : Mk K a.c_Stretch a.f_Stretch_init
  F_Stretch_degrees_at : Fun K "degrees_at" "Stretch.degrees_at" s_Stretch_degrees_at a.f_Stretch_degrees_at a.d_Stretch_degrees_at
  me_Stretch_degrees_at : Meth K a.c_Stretch "degrees_at" a.f_Stretch_degrees_at
  F_Stretch_begin_state : Fun K "begin_state" "Stretch.begin_state" s_Stretch_begin_state a.f_Stretch_begin_state a.d_Stretch_begin_state
  me_Stretch_begin_state : Meth K a.c_Stretch "begin_state" a.f_Stretch_begin_state
  F_Stretch_switched : Fun K "switched" "Stretch.switched" s_Stretch_switched a.f_Stretch_switched a.d_Stretch_switched
  me_Stretch_switched : Meth K a.c_Stretch "switched" a.f_Stretch_switched
  F_Stretch_level_ticks : Fun K "level_ticks" "Stretch.level_ticks" s_Stretch_level_ticks a.f_Stretch_level_ticks a.d_Stretch_level_ticks
  me_Stretch_level_ticks : Meth K a.c_Stretch "level_ticks" a.f_Stretch_level_ticks
  F_Stretch_first_beyond : Fun K "first_beyond" "Stretch.first_beyond" s_Stretch_first_beyond a.f_Stretch_first_beyond a.d_Stretch_first_beyond
  me_Stretch_first_beyond : Meth K a.c_Stretch "first_beyond" a.f_Stretch_first_beyond
  F_heater_state : Fun K "heater_state" "heater_state" s_heater_state a.f_heater_state a.d_heater_state
  mg_heater_state : mg "heater_state" = some (.ref a.f_heater_state)
  F_Course_init : Fun K "__init__" "Course.__init__" s_Course_init a.f_Course_init a.d_Course_init
  mk_Course : Mk K a.c_Course a.f_Course_init
  F_Course_follow : Fun K "_follow" "Course._follow" s_Course_follow a.f_Course_follow a.d_Course_follow
  me_Course_follow : Meth K a.c_Course "_follow" a.f_Course_follow
  F_Course_end_of : Fun K "_end_of" "Course._end_of" s_Course_end_of a.f_Course_end_of a.d_Course_end_of
  me_Course_end_of : Meth K a.c_Course "_end_of" a.f_Course_end_of
  F_Course_on_in : Fun K "on_in" "Course.on_in" s_Course_on_in a.f_Course_on_in a.d_Course_on_in
  me_Course_on_in : Meth K a.c_Course "on_in" a.f_Course_on_in
  F_Course_heating_sum : Fun K "heating_sum" "Course.heating_sum" s_Course_heating_sum a.f_Course_heating_sum a.d_Course_heating_sum
  me_Course_heating_sum : Meth K a.c_Course "heating_sum" a.f_Course_heating_sum
  F_Course_heated_before : Fun K "heated_before" "Course.heated_before" s_Course_heated_before a.f_Course_heated_before a.d_Course_heated_before
  me_Course_heated_before : Meth K a.c_Course "heated_before" a.f_Course_heated_before
  F_Course_recurrence : Fun K "recurrence" "Course.recurrence" s_Course_recurrence a.f_Course_recurrence a.d_Course_recurrence
  me_Course_recurrence : Meth K a.c_Course "recurrence" a.f_Course_recurrence
  F_check_gain : Fun K "check_gain" "check_gain" s_check_gain a.f_check_gain a.d_check_gain
  mg_check_gain : mg "check_gain" = some (.ref a.f_check_gain)
  F_can_be_thresholds : Fun K "can_be_thresholds" "can_be_thresholds" s_can_be_thresholds a.f_can_be_thresholds a.d_can_be_thresholds
  mg_can_be_thresholds : mg "can_be_thresholds" = some (.ref a.f_can_be_thresholds)
  F_Heater_init : Fun K "__init__" "Heater.__init__" s_Heater_init a.f_Heater_init a.d_Heater_init
  mk_Heater : Mk K a.c_Heater a.f_Heater_init
  F_Room_init : FunD K "__init__" "Room.__init__" (defArgs s_Room_init) (defBody s_Room_init) (defScope s_Room_init) [] [("on", .bl false)] a.f_Room_init a.d_Room_init
  mk_Room : Mk K a.c_Room a.f_Room_init
  F_Room_is_on : Fun K "is_on" "Room.is_on" s_Room_is_on a.f_Room_is_on a.d_Room_is_on
  me_Room_is_on : Meth K a.c_Room "is_on" a.f_Room_is_on
  F_Room_heating_ticks : Fun K "heating_ticks" "Room.heating_ticks" s_Room_heating_ticks a.f_Room_heating_ticks a.d_Room_heating_ticks
  me_Room_heating_ticks : Meth K a.c_Room "heating_ticks" a.f_Room_heating_ticks
  F__law_start : Fun K "_law_start" "_law_start" s__law_start a.f__law_start a.d__law_start
  mg__law_start : mg "_law_start" = some (.ref a.f__law_start)
  F__law_drawn : Fun K "_law_drawn" "_law_drawn" s__law_drawn a.f__law_drawn a.d__law_drawn
  mg__law_drawn : mg "_law_drawn" = some (.ref a.f__law_drawn)
  F__law_changes : Fun K "_law_changes" "_law_changes" s__law_changes a.f__law_changes a.d__law_changes
  mg__law_changes : mg "_law_changes" = some (.ref a.f__law_changes)
  F__law_weather : Fun K "_law_weather" "_law_weather" s__law_weather a.f__law_weather a.d__law_weather
  mg__law_weather : mg "_law_weather" = some (.ref a.f__law_weather)
  F__law_single : Fun K "_law_single" "_law_single" s__law_single a.f__law_single a.d__law_single
  mg__law_single : mg "_law_single" = some (.ref a.f__law_single)
  F__law_prices : Fun K "_law_prices" "_law_prices" s__law_prices a.f__law_prices a.d__law_prices
  mg__law_prices : mg "_law_prices" = some (.ref a.f__law_prices)
  F__law_cents : Fun K "_law_cents" "_law_cents" s__law_cents a.f__law_cents a.d__law_cents
  mg__law_cents : mg "_law_cents" = some (.ref a.f__law_cents)
  F__law_is_lowest : Fun K "_law_is_lowest" "_law_is_lowest" s__law_is_lowest a.f__law_is_lowest a.d__law_is_lowest
  mg__law_is_lowest : mg "_law_is_lowest" = some (.ref a.f__law_is_lowest)
  F_law : Fun K "law" "law" s_law a.f_law a.d_law
  mg_law : mg "law" = some (.ref a.f_law)
  F_Weather_changes : Fun K "changes" "Weather.changes" s_Weather_changes a.f_Weather_changes a.d_Weather_changes
  pr_Weather_changes : PropOf K a.c_Weather "changes" a.p_Weather_changes a.f_Weather_changes
  F_Prices_cents : Fun K "cents" "Prices.cents" s_Prices_cents a.f_Prices_cents a.d_Prices_cents
  pr_Prices_cents : PropOf K a.c_Prices "cents" a.p_Prices_cents a.f_Prices_cents
  F_Heater_gain : Fun K "gain" "Heater.gain" s_Heater_gain a.f_Heater_gain a.d_Heater_gain
  pr_Heater_gain : PropOf K a.c_Heater "gain" a.p_Heater_gain a.f_Heater_gain
  F_Heater_low : Fun K "low" "Heater.low" s_Heater_low a.f_Heater_low a.d_Heater_low
  pr_Heater_low : PropOf K a.c_Heater "low" a.p_Heater_low a.f_Heater_low
  F_Heater_high : Fun K "high" "Heater.high" s_Heater_high a.f_Heater_high a.d_Heater_high
  pr_Heater_high : PropOf K a.c_Heater "high" a.p_Heater_high a.f_Heater_high
  F_Room_repetition : Fun K "repetition" "Room.repetition" s_Room_repetition a.f_Room_repetition a.d_Room_repetition
  pr_Room_repetition : PropOf K a.c_Room "repetition" a.p_Room_repetition a.f_Room_repetition
  mg_MOST_TICKS : ∃ t, mg "MOST_TICKS" = some (.int 1000000000000000000 t)
  mg_MOST_GAIN : ∃ t, mg "MOST_GAIN" = some (.int 200 t)
  mg_MOST_DEGREES : ∃ t, mg "MOST_DEGREES" = some (.int 1000000000000 t)
  mg_MOST_BUDGET : ∃ t, mg "MOST_BUDGET" = some (.int 1000000000000000000000000000000 t)
  mg_gcd : mg "gcd" = some (.builtin "math.gcd")
  mg_lcm : mg "lcm" = some (.builtin "math.lcm")
  z_divmod : mg "divmod" = none
  z_enumerate : mg "enumerate" = none
  z_int : mg "int" = none
  z_len : mg "len" = none
  z_min : mg "min" = none
  z_range : mg "range" = none
  z_sum : mg "sum" = none
  cv_Prices_MAX_PRICE : ∃ t, Con K a.c_Prices "MAX_PRICE" (.int 1000000) (.int 1000000 t)
  cv_Prices_MAX_TICKS : ∃ t, Con K a.c_Prices "MAX_TICKS" (.int 24) (.int 24 t)
  cv_Weather_MAX_CHANGE : ∃ t, Con K a.c_Weather "MAX_CHANGE" (.int 100) (.int 100 t)
  cv_Weather_MAX_TICKS : ∃ t, Con K a.c_Weather "MAX_TICKS" (.int 24) (.int 24 t)
section
variable {K : PySem.W.Frag} {mg : Str → Option Value} {a : Ad}
theorem b_check_number (T : Txt K mg a) : Binds K a.d_check_number ["number", "least", "greatest"] [] := T.F_check_number.binds (ps := ["number", "least", "greatest"]) fun _ _ _ _ _ _ us hl => match us, hl with | [_, _, _], _ => rfl
theorem b_first_invalid (T : Txt K mg a) : Binds K a.d_first_invalid ["values", "least", "greatest", "most"] [] := T.F_first_invalid.binds (ps := ["values", "least", "greatest", "most"]) fun _ _ _ _ _ _ us hl => match us, hl with | [_, _, _, _], _ => rfl
theorem b_sum_of_first (T : Txt K mg a) : Binds K a.d_sum_of_first ["values", "count"] [] := T.F_sum_of_first.binds (ps := ["values", "count"]) fun _ _ _ _ _ _ us hl => match us, hl with | [_, _], _ => rfl
theorem b_added_rounds (T : Txt K mg a) : Binds K a.d_added_rounds ["one", "other"] [] := T.F_added_rounds.binds (ps := ["one", "other"]) fun _ _ _ _ _ _ us hl => match us, hl with | [_, _], _ => rfl
theorem b_Weather_len (T : Txt K mg a) : Binds K a.d_Weather_len ["self"] [] := T.F_Weather_len.binds (ps := ["self"]) fun _ _ _ _ _ _ us hl => match us, hl with | [_], _ => rfl
theorem b_Weather_add (T : Txt K mg a) : Binds K a.d_Weather_add ["self", "other"] [] := T.F_Weather_add.binds (ps := ["self", "other"]) fun _ _ _ _ _ _ us hl => match us, hl with | [_, _], _ => rfl
theorem b_Weather_mul (T : Txt K mg a) : Binds K a.d_Weather_mul ["self", "times"] [] := T.F_Weather_mul.binds (ps := ["self", "times"]) fun _ _ _ _ _ _ us hl => match us, hl with | [_, _], _ => rfl
theorem b_heating_cost (T : Txt K mg a) : Binds K a.d_heating_cost ["room", "prices", "count"] [] := T.F_heating_cost.binds (ps := ["room", "prices", "count"]) fun _ _ _ _ _ _ us hl => match us, hl with | [_, _, _], _ => rfl
theorem b_first_over (T : Txt K mg a) : Binds K a.d_first_over ["room", "prices", "budget"] [] := T.F_first_over.binds (ps := ["room", "prices", "budget"]) fun _ _ _ _ _ _ us hl => match us, hl with | [_, _, _], _ => rfl
theorem b_cost_share (T : Txt K mg a) : Binds K a.d_cost_share ["room", "prices"] [] := T.F_cost_share.binds (ps := ["room", "prices"]) fun _ _ _ _ _ _ us hl => match us, hl with | [_, _], _ => rfl
theorem b_lowest_terms (T : Txt K mg a) : Binds K a.d_lowest_terms ["numerator", "denominator"] [] := T.F_lowest_terms.binds (ps := ["numerator", "denominator"]) fun _ _ _ _ _ _ us hl => match us, hl with | [_, _], _ => rfl
theorem b_Timeline_init (T : Txt K mg a) : Binds K a.d_Timeline_init ["self", "begins", "back"] [] := T.F_Timeline_init.binds (ps := ["self", "begins", "back"]) fun _ _ _ _ _ _ us hl => match us, hl with | [_, _, _], _ => rfl
theorem b_Timeline_ticks_of_round (T : Txt K mg a) : Binds K a.d_Timeline_ticks_of_round ["self"] [] := T.F_Timeline_ticks_of_round.binds (ps := ["self"]) fun _ _ _ _ _ _ us hl => match us, hl with | [_], _ => rfl
theorem b_Timeline_begin_of (T : Txt K mg a) : Binds K a.d_Timeline_begin_of ["self", "number"] [] := T.F_Timeline_begin_of.binds (ps := ["self", "number"]) fun _ _ _ _ _ _ us hl => match us, hl with | [_, _], _ => rfl
theorem b_Timeline_place (T : Txt K mg a) : Binds K a.d_Timeline_place ["self", "tick"] [] := T.F_Timeline_place.binds (ps := ["self", "tick"]) fun _ _ _ _ _ _ us hl => match us, hl with | [_, _], _ => rfl
theorem b_Timeline_number_at (T : Txt K mg a) : Binds K a.d_Timeline_number_at ["self", "tick"] [] := T.F_Timeline_number_at.binds (ps := ["self", "tick"]) fun _ _ _ _ _ _ us hl => match us, hl with | [_, _], _ => rfl
theorem b_Timeline_in_rounds_of (T : Txt K mg a) : Binds K a.d_Timeline_in_rounds_of ["self", "ticks"] [] := T.F_Timeline_in_rounds_of.binds (ps := ["self", "ticks"]) fun _ _ _ _ _ _ us hl => match us, hl with | [_, _], _ => rfl
theorem b_HeatingSum_init (T : Txt K mg a) : Binds K a.d_HeatingSum_init ["self", "timeline", "on", "amounts"] [] := T.F_HeatingSum_init.binds (ps := ["self", "timeline", "on", "amounts"]) fun _ _ _ _ _ _ us hl => match us, hl with | [_, _, _, _], _ => rfl
theorem b_HeatingSum_is_on (T : Txt K mg a) : Binds K a.d_HeatingSum_is_on ["self", "number"] [] := T.F_HeatingSum_is_on.binds (ps := ["self", "number"]) fun _ _ _ _ _ _ us hl => match us, hl with | [_, _], _ => rfl
theorem b_HeatingSum_sum_within (T : Txt K mg a) : Binds K a.d_HeatingSum_sum_within ["self", "number", "end"] [] := T.F_HeatingSum_sum_within.binds (ps := ["self", "number", "end"]) fun _ _ _ _ _ _ us hl => match us, hl with | [_, _, _], _ => rfl
theorem b_HeatingSum_sum_before (T : Txt K mg a) : Binds K a.d_HeatingSum_sum_before ["self", "tick"] [] := T.F_HeatingSum_sum_before.binds (ps := ["self", "tick"]) fun _ _ _ _ _ _ us hl => match us, hl with | [_, _], _ => rfl
theorem b_HeatingSum_sum_of_round (T : Txt K mg a) : Binds K a.d_HeatingSum_sum_of_round ["self"] [] := T.F_HeatingSum_sum_of_round.binds (ps := ["self"]) fun _ _ _ _ _ _ us hl => match us, hl with | [_], _ => rfl
theorem b_HeatingSum_share (T : Txt K mg a) : Binds K a.d_HeatingSum_share ["self"] [] := T.F_HeatingSum_share.binds (ps := ["self"]) fun _ _ _ _ _ _ us hl => match us, hl with | [_], _ => rfl
theorem b_Drift_init (T : Txt K mg a) : Binds K a.d_Drift_init ["self", "changes", "gain"] [] := T.F_Drift_init.binds (ps := ["self", "changes", "gain"]) fun _ _ _ _ _ _ us hl => match us, hl with | [_, _, _], _ => rfl
theorem b_Drift_sum_to (T : Txt K mg a) : Binds K a.d_Drift_sum_to ["self", "tick"] [] := T.F_Drift_sum_to.binds (ps := ["self", "tick"]) fun _ _ _ _ _ _ us hl => match us, hl with | [_, _], _ => rfl
theorem b_both_drifts (T : Txt K mg a) : Binds K a.d_both_drifts ["changes", "gain"] [] := T.F_both_drifts.binds (ps := ["changes", "gain"]) fun _ _ _ _ _ _ us hl => match us, hl with | [_, _], _ => rfl
theorem b_Stretch_init (T : Txt K mg a) : Binds K a.d_Stretch_init ["self", "drifts", "on", "begin", "degrees"] [] := T.F_Stretch_init.binds (ps := ["self", "drifts", "on", "begin", "degrees"]) fun _ _ _ _ _ _ us hl => match us, hl with | [_, _, _, _, _], _ => rfl
theorem b_Stretch_degrees_at (T : Txt K mg a) : Binds K a.d_Stretch_degrees_at ["self", "tick"] [] := T.F_Stretch_degrees_at.binds (ps := ["self", "tick"]) fun _ _ _ _ _ _ us hl => match us, hl with | [_, _], _ => rfl
theorem b_Stretch_begin_state (T : Txt K mg a) : Binds K a.d_Stretch_begin_state ["self"] [] := T.F_Stretch_begin_state.binds (ps := ["self"]) fun _ _ _ _ _ _ us hl => match us, hl with | [_], _ => rfl
theorem b_Stretch_switched (T : Txt K mg a) : Binds K a.d_Stretch_switched ["self", "tick"] [] := T.F_Stretch_switched.binds (ps := ["self", "tick"]) fun _ _ _ _ _ _ us hl => match us, hl with | [_, _], _ => rfl
theorem b_Stretch_level_ticks (T : Txt K mg a) : Binds K a.d_Stretch_level_ticks ["self"] [] := T.F_Stretch_level_ticks.binds (ps := ["self"]) fun _ _ _ _ _ _ us hl => match us, hl with | [_], _ => rfl
theorem b_Stretch_first_beyond (T : Txt K mg a) : Binds K a.d_Stretch_first_beyond ["self", "bound", "sign"] [] := T.F_Stretch_first_beyond.binds (ps := ["self", "bound", "sign"]) fun _ _ _ _ _ _ us hl => match us, hl with | [_, _, _], _ => rfl
theorem b_heater_state (T : Txt K mg a) : Binds K a.d_heater_state ["degrees", "low", "high", "before"] [] := T.F_heater_state.binds (ps := ["degrees", "low", "high", "before"]) fun _ _ _ _ _ _ us hl => match us, hl with | [_, _, _, _], _ => rfl
theorem b_Course_init (T : Txt K mg a) : Binds K a.d_Course_init ["self", "changes", "gain", "low", "high", "start", "on"] [] := T.F_Course_init.binds (ps := ["self", "changes", "gain", "low", "high", "start", "on"]) fun _ _ _ _ _ _ us hl => match us, hl with | [_, _, _, _, _, _, _], _ => rfl
theorem b_Course_follow (T : Txt K mg a) : Binds K a.d_Course_follow ["self", "stretch"] [] := T.F_Course_follow.binds (ps := ["self", "stretch"]) fun _ _ _ _ _ _ us hl => match us, hl with | [_, _], _ => rfl
theorem b_Course_end_of (T : Txt K mg a) : Binds K a.d_Course_end_of ["self", "stretch"] [] := T.F_Course_end_of.binds (ps := ["self", "stretch"]) fun _ _ _ _ _ _ us hl => match us, hl with | [_, _], _ => rfl
theorem b_Course_on_in (T : Txt K mg a) : Binds K a.d_Course_on_in ["self", "tick"] [] := T.F_Course_on_in.binds (ps := ["self", "tick"]) fun _ _ _ _ _ _ us hl => match us, hl with | [_, _], _ => rfl
theorem b_Course_heating_sum (T : Txt K mg a) : Binds K a.d_Course_heating_sum ["self", "amounts"] [] := T.F_Course_heating_sum.binds (ps := ["self", "amounts"]) fun _ _ _ _ _ _ us hl => match us, hl with | [_, _], _ => rfl
theorem b_Course_heated_before (T : Txt K mg a) : Binds K a.d_Course_heated_before ["self", "tick"] [] := T.F_Course_heated_before.binds (ps := ["self", "tick"]) fun _ _ _ _ _ _ us hl => match us, hl with | [_, _], _ => rfl
theorem b_Course_recurrence (T : Txt K mg a) : Binds K a.d_Course_recurrence ["self"] [] := T.F_Course_recurrence.binds (ps := ["self"]) fun _ _ _ _ _ _ us hl => match us, hl with | [_], _ => rfl
theorem b_check_gain (T : Txt K mg a) : Binds K a.d_check_gain ["gain"] [] := T.F_check_gain.binds (ps := ["gain"]) fun _ _ _ _ _ _ us hl => match us, hl with | [_], _ => rfl
theorem b_can_be_thresholds (T : Txt K mg a) : Binds K a.d_can_be_thresholds ["low", "high"] [] := T.F_can_be_thresholds.binds (ps := ["low", "high"]) fun _ _ _ _ _ _ us hl => match us, hl with | [_, _], _ => rfl
theorem b_Heater_init (T : Txt K mg a) : Binds K a.d_Heater_init ["self", "gain", "low", "high"] [] := T.F_Heater_init.binds (ps := ["self", "gain", "low", "high"]) fun _ _ _ _ _ _ us hl => match us, hl with | [_, _, _, _], _ => rfl
theorem b_Room_is_on (T : Txt K mg a) : Binds K a.d_Room_is_on ["self", "tick"] [] := T.F_Room_is_on.binds (ps := ["self", "tick"]) fun _ _ _ _ _ _ us hl => match us, hl with | [_, _], _ => rfl
theorem b_Room_heating_ticks (T : Txt K mg a) : Binds K a.d_Room_heating_ticks ["self", "count"] [] := T.F_Room_heating_ticks.binds (ps := ["self", "count"]) fun _ _ _ _ _ _ us hl => match us, hl with | [_, _], _ => rfl
theorem b__law_start (T : Txt K mg a) : Binds K a.d__law_start ["_law_script"] [] := T.F__law_start.binds (ps := ["_law_script"]) fun _ _ _ _ _ _ us hl => match us, hl with | [_], _ => rfl
theorem b__law_drawn (T : Txt K mg a) : Binds K a.d__law_drawn ["_law_state", "_law_count"] [] := T.F__law_drawn.binds (ps := ["_law_state", "_law_count"]) fun _ _ _ _ _ _ us hl => match us, hl with | [_, _], _ => rfl
theorem b__law_changes (T : Txt K mg a) : Binds K a.d__law_changes ["_law_state", "_law_most"] [] := T.F__law_changes.binds (ps := ["_law_state", "_law_most"]) fun _ _ _ _ _ _ us hl => match us, hl with | [_, _], _ => rfl
theorem b__law_weather (T : Txt K mg a) : Binds K a.d__law_weather ["_law_changes_here"] [] := T.F__law_weather.binds (ps := ["_law_changes_here"]) fun _ _ _ _ _ _ us hl => match us, hl with | [_], _ => rfl
theorem b__law_single (T : Txt K mg a) : Binds K a.d__law_single ["_law_size", "_law_at"] [] := T.F__law_single.binds (ps := ["_law_size", "_law_at"]) fun _ _ _ _ _ _ us hl => match us, hl with | [_, _], _ => rfl
theorem b__law_prices (T : Txt K mg a) : Binds K a.d__law_prices ["_law_cents_here"] [] := T.F__law_prices.binds (ps := ["_law_cents_here"]) fun _ _ _ _ _ _ us hl => match us, hl with | [_], _ => rfl
theorem b__law_cents (T : Txt K mg a) : Binds K a.d__law_cents ["_law_state"] [] := T.F__law_cents.binds (ps := ["_law_state"]) fun _ _ _ _ _ _ us hl => match us, hl with | [_], _ => rfl
theorem b__law_is_lowest (T : Txt K mg a) : Binds K a.d__law_is_lowest ["_law_numerator", "_law_denominator"] [] := T.F__law_is_lowest.binds (ps := ["_law_numerator", "_law_denominator"]) fun _ _ _ _ _ _ us hl => match us, hl with | [_, _], _ => rfl
theorem b_law (T : Txt K mg a) : Binds K a.d_law ["_law_script"] [] := T.F_law.binds (ps := ["_law_script"]) fun _ _ _ _ _ _ us hl => match us, hl with | [_], _ => rfl
theorem b_Weather_changes (T : Txt K mg a) : Binds K a.d_Weather_changes ["self"] [] := T.F_Weather_changes.binds (ps := ["self"]) fun _ _ _ _ _ _ us hl => match us, hl with | [_], _ => rfl
theorem b_Prices_cents (T : Txt K mg a) : Binds K a.d_Prices_cents ["self"] [] := T.F_Prices_cents.binds (ps := ["self"]) fun _ _ _ _ _ _ us hl => match us, hl with | [_], _ => rfl
theorem b_Heater_gain (T : Txt K mg a) : Binds K a.d_Heater_gain ["self"] [] := T.F_Heater_gain.binds (ps := ["self"]) fun _ _ _ _ _ _ us hl => match us, hl with | [_], _ => rfl
theorem b_Heater_low (T : Txt K mg a) : Binds K a.d_Heater_low ["self"] [] := T.F_Heater_low.binds (ps := ["self"]) fun _ _ _ _ _ _ us hl => match us, hl with | [_], _ => rfl
theorem b_Heater_high (T : Txt K mg a) : Binds K a.d_Heater_high ["self"] [] := T.F_Heater_high.binds (ps := ["self"]) fun _ _ _ _ _ _ us hl => match us, hl with | [_], _ => rfl
theorem b_Room_repetition (T : Txt K mg a) : Binds K a.d_Room_repetition ["self"] [] := T.F_Room_repetition.binds (ps := ["self"]) fun _ _ _ _ _ _ us hl => match us, hl with | [_], _ => rfl
end
end W6

/-! a head's facts, told by Bools and by what stands at the defs' places -/
namespace Hq
open PySem PySem.Spec PyProof.Rows L2
/-- the def behind a property -/
def gtA (K : PySem.W.Frag) (p : Addr) : Addr := match PySem.W.recIn K p "property" with
  | some (Value.ref f :: _rest) => f
  | _ => 0
def gtR (K : PySem.W.Frag) (p : Addr) : List Value := match PySem.W.recIn K p "property" with
  | some (Value.ref _f :: rest) => rest
  | _ => []
def gtB (K : PySem.W.Frag) (p : Addr) : Bool := match PySem.W.recIn K p "property" with
  | some (Value.ref _f :: _rest) => true
  | _ => false
theorem gtB_ok {K : PySem.W.Frag} {p : Addr} (h : gtB K p = true) : PySem.W.recIn K p "property" = some (.ref (gtA K p) :: gtR K p) := by
  unfold gtB at h
  unfold gtA gtR
  split at h
  · rename_i e; rw [e]
  · cases h
/-- the dict of a def's keyword defaults -/
def kvA : Value → Addr
  | .ref b => b
  | _ => 0
def kvB : Value → Bool
  | .ref _ => true
  | _ => false
def kwA (K : PySem.W.Frag) (f : Addr) : Addr := match K.lookup f with
  | some { data := Data.func d, .. } => kvA d.kwdefaults
  | _ => 0
def kwB (K : PySem.W.Frag) (f : Addr) : Bool := match K.lookup f with
  | some { data := Data.func d, .. } => kvB d.kwdefaults
  | _ => false
/-- what a def is made of -/
abbrev Mv : Type := Option (Str × Str × Arguments × FuncBody × Scope × Addr × List (Str × Addr) × Value × Addr)
def mo (K : PySem.W.Frag) (f : Addr) : Mv := match K.lookup f with
  | some { data := Data.func d, .. } => some (d.name, d.qualname, d.params, d.body, d.scope, d.globals, d.closure, d.defaults, d.builtins)
  | _ => none
def mv (name qual : Str) (st : Stmt) : Mv := some (name, qual, defArgs st, .stmts (defBody st), defScope st, mainGlobals, [], .none, builtinsNs)
def coB (K : PySem.W.Frag) (f : Addr) (q : Str) : Bool := match K.lookup f with
  | some { data := Data.func d, .. } => PySem.W.codeIn K d.code q
  | _ => false
theorem mo_ok {K : PySem.W.Frag} {f : Addr} {name qual : Str} {st : Stmt} (e : mo K f = mv name qual st) (c : coB K f qual = true) :
    ∃ oc od osl kV doc pm an cdv ct, K.lookup f = some ⟨oc, od, .func (PySem.W.fnOf name qual (defArgs st) (defBody st) (defScope st) .none kV doc pm an cdv ct), osl⟩ ∧ PySem.W.codeIn K cdv qual = true := by
  unfold mo at e
  unfold coB at c
  cases q : K.lookup f with
  | none => rw [q] at c; cases c
  | some o =>
    obtain ⟨oc, od, dt, osl⟩ := o
    rw [q] at c e
    cases dt with
    | func fd =>
      obtain ⟨n1, n2, n3, n4, n5, n6, n7, n8, n9, n10, n11, n12, n13, n14, n15⟩ := fd
      have e2 : (some (n1, n2, n3, n4, n5, n6, n7, n8, n15) : Mv) = some (name, qual, defArgs st, .stmts (defBody st), defScope st, mainGlobals, [], .none, builtinsNs) := e
      simp only [Option.some.injEq, Prod.mk.injEq] at e2
      obtain ⟨h1, h2, h3, h4, h5, h6, h7, h8, h9⟩ := e2
      subst h1 h2 h3 h4 h5 h6 h7 h8 h9
      exact ⟨oc, od, osl, n9, n10, n11, n12, n13, n14, rfl, c⟩
    | _ => cases c
theorem mo_okK {K : PySem.W.Frag} {f : Addr} {name qual : Str} {st : Stmt} (e : mo K f = mv name qual st) (c : coB K f qual = true) (b : kwB K f = true) :
    ∃ oc od osl doc pm an cdv ct, K.lookup f = some ⟨oc, od, .func (PySem.W.fnOf name qual (defArgs st) (defBody st) (defScope st) .none (.ref (kwA K f)) doc pm an cdv ct), osl⟩ ∧ PySem.W.codeIn K cdv qual = true := by
  obtain ⟨oc, od, osl, kV, doc, pm, an, cdv, ct, lk, co⟩ := mo_ok e c
  have ek : kV = .ref (kwA K f) := by
    unfold kwB at b
    unfold kwA
    rw [lk] at b ⊢
    have b2 : kvB kV = true := b
    show kV = .ref (kvA kV)
    cases kV with
    | ref d => rfl
    | _ => cases b2
  rw [ek] at lk
  exact ⟨oc, od, osl, doc, pm, an, cdv, ct, lk, co⟩
/-- a written int of the module -/
def inB (K : PySem.W.Frag) (x : Str) (i : Int) : Bool := match PySem.W.nsIn K mainGlobals x with
  | some (some (Value.int j _t)) => decide (j = i)
  | _ => false
theorem inB_ok {K : PySem.W.Frag} {x : Str} {i : Int} (h : inB K x i = true) : ∃ t, PySem.W.nsIn K mainGlobals x = some (some (.int i t)) := by
  unfold inB at h
  split at h
  · rename_i j t e
    rw [e, of_decide_eq_true h]
    exact ⟨t, rfl⟩
  · cases h
/-- a class's int -/
def cvB (K : PySem.W.Frag) (C : Addr) (x : Str) (i : Int) : Bool := match PySem.W.findIn K (.ref C) x with
  | some (some (Value.int j t)) => decide (j = i) && He.eqO (PySem.W.specialIn K (.int j t) "__get__") (some none)
  | _ => false
theorem cvB_ok {K : PySem.W.Frag} {C : Addr} {x : Str} {i : Int} (h : cvB K C x i = true) : ∃ t, PySem.W.findIn K (.ref C) x = some (some (.int i t)) ∧ PySem.W.specialIn K (.int i t) "__get__" = some none := by
  unfold cvB at h
  split at h
  · rename_i j t e
    obtain ⟨h1, h2⟩ := He.ba h
    have ej := of_decide_eq_true h1
    subst ej
    exact ⟨t, e, He.eqO_ok h2⟩
  · cases h
/-! ### the Hook -/
/-- the facts; where the defs stand, and what is to stand there -/
structure Spc where
  bs : PySem.W.Frag → List Bool
  fs : List ((PySem.W.Frag → Addr) × Mv)
abbrev Av : Type := Bool × List Mv
def obs (S : Spc) (K : PySem.W.Frag) : Av := ((S.bs K).all id, S.fs.map fun q => mo K (q.1 K))
def wanted (S : Spc) : Av := (true, S.fs.map fun q => q.2)
def Says (S : Spc) (K : PySem.W.Frag) : Prop := obs S K = wanted S
/-- what an object leads to: values, code, keyword defaults, a class's names -/
def refQ (o : Obj) : List Addr := match o.data with
  | .dict entries _ => entries.toList.flatMap fun q => He.refV q.val
  | .func d => He.refV d.code ++ He.refV d.kwdefaults
  | .cls d => [d.ns]
  | .fields parts => parts.toList.flatMap He.refV
  | _ => []
def lvl (g : Addr → Option Obj) (xs : List Addr) : List Addr := xs.flatMap fun b => match g b with
  | some o => refQ o
  | none => []
def asQ (g : Addr → Option Obj) : Nat → List Addr → List Addr
  | 0, xs => xs
  | n + 1, xs => xs ++ asQ g n (lvl g xs)
def obsG (n : Nat) (S : Spc) (g : Addr → Option Obj) : Av := obs S (He.frG g (asQ g n [mainGlobals]))
def hook (n : Nat) (S : Spc) : PySem.W.Hook where
  α := Av
  obs := fun s => obsG n S s.heap.get?
  val := fun _ => wanted S
  says := fun _ h => ∃ K : PySem.W.Frag, K.In h ∧ Says S K
  of := fun _ _ e => ⟨_, He.frG_in, e⟩
  keeps := fun _ _ _ ⟨K, hK, c⟩ k => ⟨K, hK.keeps k, c⟩
theorem obsG_eq {n : Nat} {S : Spc} {g : Addr → Option Obj} {s : Shared} (h : ∀ a, g a = s.heap.get? a) : obsG n S g = (hook n S).obs s := by
  obtain rfl : g = s.heap.get? := funext h
  rfl
section
variable {S : Spc} {K : PySem.W.Frag}
theorem Says.fact (c : Says S K) (i : Nat) {b : Bool} (h : (S.bs K)[i]? = some b) : b = true := by
  have c1 : (S.bs K).all id = true := congrArg (fun z : Av => z.1) c
  exact List.all_eq_true.mp c1 b (List.mem_of_getElem? h)
theorem Says.fn (c : Says S K) (i : Nat) {f : PySem.W.Frag → Addr} {v : Mv} (h : S.fs[i]? = some (f, v)) : mo K (f K) = v := by
  have c2 : (S.fs.map fun q => mo K (q.1 K)) = S.fs.map fun q => q.2 := congrArg (fun z : Av => z.2) c
  have e2 : (S.fs.map fun q => mo K (q.1 K))[i]? = (S.fs.map fun q => q.2)[i]? := by rw [← c2]
  rw [List.getElem?_map, List.getElem?_map, h] at e2
  exact Option.some.inj e2
end
end Hq

set_option maxHeartbeats 2000000
/-! an own exception over own bases over ValueError: def __init__(self, index): super().__init__(f'..{index}'); self.index = index -/
namespace PySem
namespace IxX
open PySem.W PySem.Calls PyProof.Rows PySem.HandSPX
/-! ### the text of __init__ -/
def iA (p1 p2 : Pos) : Arguments := { posonlyargs := [], args := [{ arg := "self", annotation := none, pos := p1 }, { arg := "index", annotation := none, pos := p2 }], vararg := none, kwonlyargs := [], kw_defaults := [], kwarg := none, defaults := [] }
def iB (msg : Str) (k : Nat) (r1 r2 r3 r4 r5 r6 r7 r8 r9 q1 q2 q3 q4 : Pos) : List Stmt :=
  [.Expr (.Call (.Attribute (.Call (.Name "super" r1) [] [] r2) "__init__" r3) [.JoinedStr [.Constant (.str msg) k r4, .FormattedValue (.Name "index" r5) (-1) none r6] r7] [] r8) r9,
   .Assign [.Attribute (.Name "self" q1) "index" q2] (.Name "index" q3) q4]
def iS : Scope := { kind := .function, names := [(PySem.Str.ofString "self", .local), (PySem.Str.ofString "index", .local), (PySem.Str.ofString "__class__", .free), (PySem.Str.ofString "super", .globalImplicit)], isGenerator := false, isCoroutine := false, more := [] }
/-- what the written part says of such a class, named nm, at C, and of its __init__, at fI -/
structure IxTxt (P : Program) (K : Frag) (mg : Str → Option Value) (nm : Str) (C fI : Addr) : Prop where
  gC : mg nm = some (.ref C)
  cls : ∃ nm q N bs bm sn sub ab col dd k0 k1 k2 k3 k5, K.lookup C = some (excClassObj nm q C N bs bm true sn sub ab col dd k0 k1 k2 k3 k5 "ValueError.__new__") ∧ refsVE bm = true
  sa : findIn K (.ref C) "__setattr__" = some (some (.builtin "object.__setattr__"))
  ga : findIn K (.ref C) "__getattribute__" = some (some (.builtin "BaseException.__getattribute__"))
  gg : findIn K (.ref C) "__getattr__" = some none
  noN : findIn K (.ref C) "index" = some none
  iC : findIn K (.ref C) "__init__" = some (some (.ref fI))
  tC : typeIn K (.ref fI) = some (.type "function")
  kC : keepIn K (.ref C) = true
  exC : subIn K (.ref C) (.type "BaseException") = some true
  tyC : typeIn K (.ref C) = some (.type "type")
  hdC : hasDictIn K C = true
  mr : mroIn K C (.ref C) = some true
  su : ks_superIn K C C "__init__" = some (some (.builtin "ValueError.__init__"))
  ve : subIn K (.ref C) (.type "ValueError") = some true
  any : nsIn K cStatics "thirdparty.any" = some none
  noS : mg "super" = none
  top : (P.main.scope.names.lookup ("super" : Str)).isSome = false
  fn : ∃ (oc : Value) (od : Option Addr) (qual : Str) (doc pm : Value) (an : Option Addr) (cda cc : Addr) (ct : Value) (osl : Array (Option Value)) (msg : Str) (k : Nat) (p1 p2 r1 r2 r3 r4 r5 r6 r7 r8 r9 q1 q2 q3 q4 : Pos),
    (r3.endLine == r8.line) = true ∧ K.lookup fI = some ⟨oc, od, .func (ksFn "__init__" qual (iA p1 p2) (iB msg k r1 r2 r3 r4 r5 r6 r7 r8 r9 q1 q2 q3 q4) iS .none .none doc pm an (.ref cda) ct cc), osl⟩ ∧ codeIn K (.ref cda) qual = true ∧ msg.length ≤ 1000 ∧
    (∃ (ccl : Value) (cdd : Option Addr) (vs : Array Value) (ccs : Array (Option Value)) (file : Str) (tf : Tok), K.lookup cda = some ⟨ccl, cdd, .fields vs, ccs⟩ ∧ vs[2]? = some (.str file tf) ∧ ((P.main.file : Str) == file) = true) ∧
    (∃ (cl : Value) (cld : Option Addr) (csl : Array (Option Value)), K.lookup cc = some ⟨cl, cld, .cell (some (.ref C)), csl⟩)
theorem one_size (v : Value) : [v].length ≤ sizeLine := by
  rw [sizeLine_eq]
  exact (by decide : 1 ≤ 16777216)
theorem kept_but {K : Frag} {h h' : Heap} {x : Addr} (X : K.In h) (hx : K.lookup x = none) (k : ∀ b o, b ≠ x → h.get? b = some o → h'.get? b = some o) : K.In h' := fun a o e =>
  k a o (fun z => by rw [z, hx] at e; cases e) (X a o e)
theorem ns_but {h h' : Heap} {L x : Addr} {m : Str → Option Value} (n : h.Ns L m) (hx : L ≠ x) (k : ∀ b o, b ≠ x → h.get? b = some o → h'.get? b = some o) : h'.Ns L m := by
  obtain ⟨o, es, ep, h1, h2⟩ := n
  exact ⟨o, es, ep, k _ _ hx h1, h2⟩
/-- what __init__ leaves of a fresh exception at x -/
structure InitEnd (h h' : Heap) (x C dx t1 : Addr) (v : Value) : Prop where
  keep : ∀ b o, b ≠ x → h.get? b = some o → h'.get? b = some o
  obj : h'.get? x = some { cls := .ref C, dict := some dx, data := .fields #[.ref t1, .none, .none, .none, .bool false, .none] }
  dbig : h.objs.size ≤ dx
  dne : dx ≠ x
  ns : h'.Ns1 dx (fun y => if y = "index" then some v else none)
section
variable {prog : Program} {w : World} {A : Around} {E : Value → Shared → Prop} {h : Heap} {g : Array GenState} {d : Drawn} {t : Nat} {os : OsState}
/-- the bound __init__ of ValueError is called: nothing of it is told but that the exception stands anew -/
theorem call_mw {nm q : Str} {C N u e t0 : Addr} {bs bm : List Value} {hdct : Bool} {sn : List Str} {sub : List Value} {ab : Bool} {col : Option Bool} {dd : Option Addr} {k0 k1 k2 k3 k5 : Option Value} {rest : List Value} {Q : Value → Shared → Prop}
    (hC : h.get? C = some (excClassObj nm q C N bs bm hdct sn sub ab col dd k0 k1 k2 k3 k5 "ValueError.__new__")) (he : h.get? e = some (excO C t0)) (hu : h.get? u = some (kxs_mw "ValueError.__init__" e)) (hz : rest.length ≤ sizeLine)
    (hq : ∀ h' t1, (∀ b o, b ≠ e → h.get? b = some o → h'.get? b = some o) → h'.get? e = some (excO C t1) → Q .none ⟨h', g, d, t, os⟩) :
    wpAny (model prog w) A (call (.ref u) rest) Q E ⟨h, g, d, t, os⟩ := by
  have F := F.excBase_ValueError
  refine wpAny_call (codeAny_of_tree ?_)
  show wpAny _ A.in1 (callAny (.ref u) ⟨rest, []⟩) _ _ _
  simp only [callAny]
  refine wpAny_bind (wpAny_load hu ?_)
  have isMw : (Value.type "method-wrapper" == Value.type "method"
      || Value.type "method-wrapper" == Value.type "builtin_function_or_method"
      || Value.type "method-wrapper" == Value.type "method-wrapper") = true := by decide
  simp only [kxs_mw, isMw, if_true]
  refine KFB.if_so (by decide) ?_
  refine wpAny_bind (check_bound_init F.toExcCallFacts hC he rfl ?_)
  refine wpAny_bind (wpAny_pure (wpAny_pure ?_))
  refine ⟨plainId_quiet F.init.plain _, codeAny_builtin F.initEntry ?_⟩
  exact exc_init_tree (cls := .ref C) (t0 := t0) (dv := none) (c2 := .none) (c3 := .none) (b4 := .bool false) he hz (fun h' k e' _ => hq h' h.objs.size k e')
end
section
variable {prog : Program} {w : World} {A : Around} {E : Value → Shared → Prop} {R : Result → Shared → Prop} {s : Shared} {K : Frag} {mg : Str → Option Value} {nm : Str} {C fI : Addr}
theorem ix_init (T : IxTxt prog K mg nm C fI) {x t0 : Addr} {i : Int} {ti : Tok} (X : K.In s.heap) (G : s.heap.Ns mainGlobals mg) (B : ∃ mb, s.heap.Ns builtinsNs mb ∧ ∀ y : Str, y ≠ "__name__" → mb y = bootBuiltins y) (hlim : s.heap.NoLimit)
    (hx : s.heap.get? x = some (excO C t0)) (hnx : K.lookup x = none) (hroom : A.depth < recursionLimit) (hi : i.natAbs.log2 < 1920)
    (hq : ∀ h' tk dx t1, InitEnd s.heap h' x C dx t1 (.int i ti) → R (.ok (.ret .none)) { s with heap := h', toks := tk }) :
    codeAny (model prog w) A (.call (.ref fI) ⟨[.ref x, .int i ti], []⟩) R s := by
  obtain ⟨oc, od, qual, doc, pm, an, cda, cc, ct, osl, msg, kk, p1, p2, r1, r2, r3, r4, r5, r6, r7, r8, r9, q1, q2, q3, q4, hline, ho, hcd, hmsg, ⟨ccl, cdd, vs, ccs, file, tf, hcode, hvs, hfile⟩, cl, cld, csl, hcell⟩ := T.fn
  obtain ⟨nm', q', N, bs, bm, sn, sub, ab, col, dd, k0, k1, k2, k3, k5, hC, hbm⟩ := T.cls
  have hcl : clsIn K C = some { name := nm', bases := bs, mro := .ref C :: bm, ns := N, qualname := q', hasDict := true, slotNames := sn, subclasses := sub, abstract := ab, collection := col, hasDel := false } := by unfold clsIn; rw [hC] <;> rfl
  obtain ⟨mb, Bn, Bb⟩ := B
  obtain ⟨hh, g, d, tk, os⟩ := s
  refine ks_codeAny_call_defAt (binds := [("self", .ref x), ("index", .int i ti)]) hroom (X _ _ ho) rfl hlim (codeRec_of X hcd) rfl (BindsTo.of_eq (by first | rfl | with_unfolding_all rfl)) (fun y hy => ?_) (fun y hy => ?_) (fun h₁ hns k => ?_)
  · have hy : y ∈ iS.names := hy
    have z : ∀ u ∈ iS.names, u.2 ≠ NameKind.cell := by decide
    exact z y hy
  · simp only [List.mem_cons, List.not_mem_nil, or_false] at hy
    rcases hy with rfl | rfl
    · rfl
    · rfl
  have X₁ : K.In h₁ := X.keeps k
  have hxL : hh.objs.size ≠ x := Nat.ne_of_gt (Heap.lt_size hx)
  refine ks_wpAt_execs_cons ?_
  refine ks_wpAt_Expr_any ?_
  rw [arm_eval_Call]
  refine wpAt_bind ?_
  refine ks_wpAt_super_base (env := callEnv _ _ _) (by rfl) (by rfl) (by decide) rfl (X₁ _ _ ho) rfl rfl rfl (X₁ _ _ hcode) rfl hvs hfile T.top ?_
  obtain ⟨oD, hD1, hD2⟩ : ∃ oD, h₁.get? C = some oD ∧ oD.data = .cls { name := nm', bases := bs, mro := .ref C :: bm, ns := N, qualname := q', hasDict := true, slotNames := sn, subclasses := sub, abstract := ab, collection := col, hasDel := false } := ⟨_, X₁ _ _ hC, rfl⟩
  have hx₁ := k _ _ hx
  have hxC : x ≠ C := fun z => by rw [z, hC] at hnx; cases hnx
  refine ks_loadName_global (by rfl) (by rfl) (loadGlobal_builtin (mg := mg) (mb := mb) (v := .type "super") (Heap.Ns.keeps G k) T.noS (Heap.Ns.keeps Bn k) ((Bb _ (by decide +kernel)).trans (by first | boot_by_name | rfl | kernel_rfl)) ⟨rfl, ?_⟩)
  refine wpAny_loadName_free (by rfl) (by rfl) (by rfl) ⟨_, X₁ _ _ hcell, rfl⟩ ?_
  refine wpAny_loadName_local (by rfl) (by rfl) hns (by rfl) ?_
  refine ks_wpAny_isType_cls hD1 hD2 ⟨rfl, ?_⟩
  refine ks_wpAny_call_super hD1 hD2 hx₁ rfl (fun c e => by cases e) (looks_mroIn X₁ T.mr) (fun h₂ e k₂ => ?_)
  have X₂ : K.In h₂ := X₁.keeps k₂
  have hx₂ := k₂ _ _ hx₁
  have hI : Looks (model prog w) h₂ (isInstance (.ref x) (.type "ValueError")) true :=
    Looks.andThen (W.InstAt.type (C := C) (od := none) ⟨hx₂, rfl, rfl, trivial⟩) (looks_subIn X₂ T.ve)
  have hmr : Looks (model prog w) h₂ (mroOf (.ref C)) (Value.ref C :: bm) := (looks_clsIn X₂ hcl).andThen .now
  have hsu : alongIn K "__init__" (((Value.ref C :: bm).dropWhile (· != .ref C)).drop 1) = some (some (.builtin "ValueError.__init__")) := by
    have z := T.su
    unfold ks_superIn at z
    rw [hcl] at z
    exact z
  refine wpAt_of_wpAny (wpAny_bind (wpAny_standAt ?_))
  have hpos : methodCallPos true (.Call (.Name "super" r1) [] [] r2) (callEnv (ksFn "__init__" qual (iA p1 p2) (iB msg kk r1 r2 r3 r4 r5 r6 r7 r8 r9 q1 q2 q3 q4) iS .none .none doc pm an (.ref cda) ct cc) hh.objs.size fI) r3 r8 = pure r8 := by
    unfold methodCallPos
    simp [hline]
  unfold methodCall
  refine wpAny_bind (wpAny_holding ?_)
  refine kxs_getMethod kxs_ValueError e (looks_opaque X₂ T.any) hmr rfl X₂ hsu hI hxC (by decide) ?_
  refine wpAny_bind (wpAny_of_eq hpos ?_)
  have hC₂ := X₂ _ _ hC
  have huN : ∀ (b : Addr) (o : Obj), h₂.get? b = some o → (h₂.push (kxs_mw "ValueError.__init__" x)).get? b = some o := fun b o e => Heap.get?_push_of_some _ e
  refine kxs_callWith (i := "ValueError.__init__") (x := x) rfl ?_
  refine evalArgs_plain (rest := []) (spliced_cons ?_)
  refine wpAny_JoinedStr (pos := r7) ?_
  have lt : (Str.ofString (toString i)).length ≤ 1921 := by
    rw [ofString_length]
    exact int_text_length_le (k := 1920) (by decide) hi
  have z0 : (Str.empty ++ msg).length ≤ sizeLine := by
    rw [Str.length_append, sizeLine_eq]
    have : (Str.empty).length = 0 := rfl
    omega
  have z1 : (Str.empty ++ msg ++ Str.ofString (toString i)).length ≤ sizeLine := by
    rw [Str.length_append, Str.length_append, sizeLine_eq]
    have : (Str.empty).length = 0 := rfl
    omega
  refine Calls.Constant_str ⟨msg, _, rfl, z0, ?_⟩
  refine wpAny_FormattedValue_plain (wpAny_Name (wpAny_loadName_local (m := fun y => List.lookup y [(Str.ofString "self", Value.ref x), (Str.ofString "index", Value.int i ti)].reverse) (by rfl) (by rfl) (Heap.Ns.keeps (Heap.Ns.keeps hns k₂) huN) (by rfl) ?_) (by decide))
  · refine wpAny_formatField_int hi ⟨_, _, rfl, z1, z1, spliced_nil ⟨Heap.get?_push_at rfl rfl, ?_⟩⟩
    refine call_mw (t0 := t0) (huN _ _ hC₂) (huN _ _ hx₂) (Heap.get?_push_at rfl rfl) (one_size _) (fun h₃ t1 k₃ hx₃ => ?_)
    have nuL : ∀ {L : Addr}, L ≠ x → ∀ {m : Str → Option Value}, h₁.Ns L m → h₃.Ns L m := fun hL m n => ns_but (Heap.Ns.keeps (Heap.Ns.keeps n k₂) huN) hL k₃
    have X₃ : K.In h₃ := kept_but (X₂.keeps huN) hnx k₃
    have hn₃ := nuL hxL hns
    refine wpAt_of_wpAny (wpAny_execs_cons (plainObj_wpAny_Assign_Attribute ?_))
    refine wpAny_Name (wpAny_loadName_local (v := .int i ti) (by rfl) (by rfl) hn₃ (by rfl) ?_) (by decide)
    refine wpAny_Name (wpAny_loadName_local (v := .ref x) (by rfl) (by rfl) hn₃ (by rfl) ?_) (by decide)
    refine set_plain X₃ (ox := excO C t1) (od := none) ⟨hx₃, rfl, rfl, trivial⟩ T.sa ?_
    refine exc_osa X₃ hx₃ hcl (show refsVE (.ref C :: bm) = true from hbm) rfl T.noN (fun h₄ tk₄ dx k₄ dn dne hx₄ hn₄ => ?_)
    refine wpAny_execs_nil ?_
    refine hq h₄ tk₄ dx t1 ⟨fun b o hb e => k₄ b o hb (k₃ b o hb (huN _ _ (k₂ _ _ (k b o e)))), hx₄, ?_, dne, hn₄⟩
    exact Nat.le_of_lt (Nat.lt_of_lt_of_le hn₃.lt dn)
/-- a made one -/
structure OwnMade (h h' : Heap) (e C d : Addr) (v : Value) : Prop where
  keep : ∀ b o, h.get? b = some o → h'.get? b = some o
  new : h.objs.size ≤ e
  obj : ∃ oe vs, h'.get? e = some oe ∧ oe.cls = .ref C ∧ oe.dict = some d ∧ oe.data = .fields vs ∧ vs[1]? = some .none
  dbig : h.objs.size ≤ d
  dne : d ≠ e
  ns : h'.Ns1 d (fun y => if y = "index" then some v else none)
theorem ix_made (T : IxTxt prog K mg nm C fI) {i : Int} {ti : Tok} (X : K.In s.heap) (G : s.heap.Ns mainGlobals mg) (B : ∃ mb, s.heap.Ns builtinsNs mb ∧ ∀ y : Str, y ≠ "__name__" → mb y = bootBuiltins y) (hlim : s.heap.NoLimit) (hroom : A.depth + 1 < recursionLimit) (hi : i.natAbs.log2 < 1920)
    (hq : ∀ h' tk e d, OwnMade s.heap h' e C d (.int i ti) → R (.ok (.ret (.ref e))) { s with heap := h', toks := tk }) :
    codeAny (model prog w) A (.call (.ref C) ⟨[.int i ti], []⟩) R s := by
  obtain ⟨nm, q, N, bs, bm, sn, sub, ab, col, dd, k0, k1, k2, k3, k5, hC, hbm⟩ := T.cls
  obtain ⟨hp, g, dr, tk, os⟩ := s
  have k : ∀ b o, hp.get? b = some o → ((hp.push (kdv_tup [.int i ti])).push (excO C hp.objs.size)).get? b = some o := fun b o e => Heap.get?_push_of_some _ (Heap.get?_push_of_some _ e)
  have hget : ((hp.push (kdv_tup [.int i ti])).push (excO C hp.objs.size)).get? (hp.objs.size + 1) = some (excO C hp.objs.size) := by heap_get
  have hnx : K.lookup (hp.objs.size + 1) = none := by
    cases e : K.lookup (hp.objs.size + 1) with
    | none => rfl
    | some o =>
      have z : hp.get? (hp.objs.size + 1) = some o := X _ _ e
      exact absurd (Nat.lt_of_succ_lt (Heap.lt_size z)) (Nat.lt_irrefl _)
  obtain ⟨mb, Bn, Bb⟩ := B
  refine call_own F.excBase_ValueError (fun X => refsVE_contains X bm hbm) (X _ _ hC) (looks_findIn X T.iC) (fun self => bind_fn X self T.tC) (one_size _) ?_
  refine ix_init (s := ⟨(hp.push (kdv_tup [.int i ti])).push (excO C hp.objs.size), g, dr, tk, os⟩) T (X.keeps k) (Heap.Ns.keeps G k) ⟨mb, Heap.Ns.keeps Bn k, Bb⟩ (hlim.keeps k) hget hnx ?_ hi fun h' tk' dx t1 ⟨k', hx, dn, dne, hns⟩ => ?_
  · show A.depth + 1 < recursionLimit
    exact hroom
  · have old : ∀ b o, hp.get? b = some o → h'.get? b = some o := fun b o e => k' b o (Nat.ne_of_lt (Nat.lt_succ_of_lt (Heap.lt_size e))) (k b o e)
    have z : hp.objs.size + 1 + 1 ≤ dx := by
      first
        | (simpa only [Heap.size_push] using dn)
        | exact dn
        | (have q := dn; rw [Heap.size_push, Heap.size_push] at q; exact q)
    exact ⟨rfl, hq h' tk' (hp.objs.size + 1) dx ⟨old, Nat.le_succ _, ⟨_, _, hx, rfl, rfl, rfl, rfl⟩, Nat.le_trans (Nat.le_trans (Nat.le_succ _) (Nat.le_succ _)) z, dne, hns⟩⟩
end
end IxX
end PySem
namespace L2
open PySem PySem.Spec PyProof.Rows
theorem relO_ix {v : V} {v' : Value} (r : RelV v v') (f : Str) : RelO (List.lookup f [(("index" : Str), v)]) (if f = "index" then some v' else none) := by
  by_cases hw : f = "index"
  · subst hw
    rw [if_pos rfl]
    have q : List.lookup ("index" : Str) [(("index" : Str), v)] = some v := by simp [List.lookup]
    rw [q]
    exact r
  · rw [if_neg hw]
    have qw : (f == ("index" : Str)) = false := by simpa using hw
    have q2 : List.lookup f [(("index" : Str), v)] = none := by simp [List.lookup, qw]
    rw [q2]
    trivial
section
variable {X : Cx} {nm : Str} {C fI : Addr}
/-- InvalidX(e) -/
def tMkIx (C : Addr) (ta : TA) : St → Hp → XK → Prop := fun σ H Q => ta σ H fun vs H1 => ∃ i : Int, vs = [.int i] ∧ i.natAbs.log2 < 1920 ∧ ∀ d, H1 d = none → Q (.ref C) (some d) (upd H1 d (.xd [(("index" : Str), .int i)]))
theorem pmk_ix {a : Expr} {ta : TA} {p pos : Pos} {k : Nat} (T : PySem.IxX.IxTxt X.prog X.K X.mg nm C fI) (hr : Room k X.A) (ha : PA X [a] ta) (hg : Gl X nm) (hdb : (nm == ("__debug__" : Str)) = false := by decide)
    (he : starEach (a :: []) X.env = (false, eval a X.env) :: starEach [] X.env := by rfl) (hpl : (backTo pos (starEach [] X.env)).any (·.1) = false := by rfl) :
    PMk X (.Call (.Name nm p) [a] [] pos) (tMkIx C ta) := by
  intro pins s σ H Q I h
  refine wpAny_Call_Name_kw (ld_glob I hg T.gC ?_ hdb)
  refine PySem.W.callWith_K (h₀ := X.base) I.ok.mod.kin T.kC (thn (ha.run pos pins s σ H _ I h) fun us s1 hh => ?_) he hpl
  obtain ⟨vs, H1, I1, r1, i, ev, hi, q1⟩ := hh
  subst ev
  refine ⟨I1.kIn, ?_⟩
  cases r1 with
  | cons rv rn =>
    rename_i v' us'
    cases rn
    obtain ⟨ti, rfl⟩ := rv
    show wpAny _ _ (call (.ref C) [.int i ti]) _ _ _
    have hlim := I1.nolimit
    have hglob := I1.ok.mod.glob.keeps I1.bk
    have hbl : ∃ mb, s1.heap.Ns builtinsNs mb ∧ ∀ y : Str, y ≠ "__name__" → mb y = bootBuiltins y := by
      obtain ⟨mb, b1, b2⟩ := I1.ok.mod.blt
      exact ⟨mb, b1.keeps I1.bk, b2⟩
    have hkin := I1.kIn
    obtain ⟨hp, g, dr, tk, os⟩ := s1
    refine wpAny_call (PySem.IxX.ix_made T hkin hglob hbl hlim (by have := hr.dp; omega) hi fun h' tk' e d M => ?_)
    show MkP X pins σ Q (.ref e) ⟨h', g, dr, tk', os⟩
    obtain ⟨oe, fv, hoe, hc, hd, hdat, h1⟩ := M.obj
    have hns := M.ns
    obtain ⟨G', g1, g2⟩ := restrict h' fun b => decide (b ≠ e)
    have gk : ∀ b, b ≠ e → G'.get? b = h'.get? b := fun b hb => g1 b (decide_eq_true hb)
    have ge : G'.get? e = none := g2 e (by simp)
    have old : ∀ b o, hp.get? b = some o → G'.get? b = some o := fun b o q => (gk b (Nat.ne_of_lt (Nat.lt_of_lt_of_le (Heap.lt_size q) M.new))).trans (M.keep b o q)
    have ob : ObjOk X.prog X.w (upd H1 d (.xd [(("index" : Str), .int i)])) G' d (.xd [(("index" : Str), .int i)]) :=
      ⟨_, hns.at (fun o q => (gk d M.dne).trans q), fun f => relO_ix (v := .int i) (v' := .int i ti) ⟨ti, rfl⟩ f⟩
    have J : Inv X pins σ (upd H1 d (.xd [(("index" : Str), .int i)])) ⟨G', g, dr, tk', os⟩ := I1.laid (t' := tk') old M.dbig ob
    refine ⟨e, oe, fv, ⟨G', g, dr, tk', os⟩, _, .ref C, some d, rfl, J, fun b o q => ?_, ge, hoe, ⟨hc, hd⟩, hdat, h1, ?_, rfl, I1.bare, raises_own T.exC T.tyC, q1 d (I1.hok.fresh M.dbig)⟩
    · by_cases hb : b = e
      · have q' : G'.get? b = some o := q
        rw [hb, ge] at q'; cases q'
      · exact (gk b hb).symm.trans q
    · rw [upd_ne (Ne.symm M.dne)]
      exact I1.hok.fresh M.new
/-- raise InvalidX(e) -/
def tRaiseIx (C : Addr) (W : WX) (ta : TA) : TS := fun _ σ H => tMkIx C ta σ H fun cls d H' => W cls d σ H'
theorem ps_raiseIx {a : Expr} {ta : TA} {W : WX} {p pos pos2 : Pos} {k : Nat} (hc : X.calm = true) (T : PySem.IxX.IxTxt X.prog X.K X.mg nm C fI) (hr : Room k X.A) (tk : Takes X W) (ha : PA X [a] ta) (hg : Gl X nm) (hdb : (nm == ("__debug__" : Str)) = false := by decide)
    (he : starEach (a :: []) X.env = (false, eval a X.env) :: starEach [] X.env := by rfl) (hpl : (backTo pos (starEach [] X.env)).any (·.1) = false := by rfl) :
    PS X (.Raise (some (.Call (.Name nm p) [a] [] pos)) none pos2) (tRaiseIx C W ta) := ps_raise hc tk (pmk_ix T hr ha hg hdb he hpl)
/-- e.index, e the exception that the suite holds (at a; its class cls, its dict d) -/
def tByIx (C : Addr) (a : Addr) (cls : Value) (d : Option Addr) (te : TE) : TE := fun σ H Q => te σ H fun x H1 => x = .ref a ∧ cls = .ref C ∧ ∃ (dd : Addr) (v : V), d = some dd ∧ H1 dd = some (.xd [(("index" : Str), v)]) ∧ Q v H1
theorem pe_byIx {a : Addr} {oe : Obj} {cls : Value} {d : Option Addr} {pn : List (Addr × Obj)} {e : Expr} {te : TE} {pos : Pos} (T : PySem.IxX.IxTxt X.prog X.K X.mg nm C fI) (hz : Zc cls d oe) (hf : ∃ vs, oe.data = .fields vs) (he : PE (X.suite a ((a, oe) :: pn)) e te)
    (hb : attributeBase e "index" X.env (eval e X.env) = eval e X.env := by rfl) :
    PE (X.suite a ((a, oe) :: pn)) (.Attribute e "index" pos) (tByIx C a cls d te) := by
  refine ⟨fun pins s σ H Q I h => ?_⟩
  refine attr_of hb (thn (he.run pins s σ H _ I h) fun u s1 hh => ?_)
  obtain ⟨x, H1, I1, rx, ex, ec, dd, v, ed, ea, q⟩ := hh
  subst ex
  obtain rfl : u = Value.ref a := rx
  subst ec
  subst ed
  obtain ⟨ha, _⟩ := I1.pin (a, oe) (List.mem_append_left _ List.mem_cons_self)
  obtain ⟨vs, hd⟩ := hf
  have hx : ObjOk X.prog X.w H1 s1.heap dd (.xd [(("index" : Str), v)]) := I1.hok dd _ ea
  obtain ⟨mA, hns, hr⟩ := hx
  obtain ⟨od, ho, hl⟩ := lookIn_ns hns
  have l : List.lookup ("index" : Str) [(("index" : Str), v)] = some v := by simp [List.lookup]
  obtain ⟨u, hu, ru⟩ := RelO.some_of (v := v) (o := mA "index") (by rw [← l]; exact hr "index")
  have J : PySem.W.InstAt s1.heap a oe C (some od) := ⟨ha, hz.1, by unfold PySem.W.notCls; rw [hd] <;> rfl, by rw [hz.2]; exact ho⟩
  exact HandSPX.exc_get I1.kIn J T.ga T.gg T.exC (PySem.W.findObj_own T.hdC T.noN rfl (by rw [hl, hu])) (handed_of ru) ⟨v, H1, I1.tok _, ru, q⟩
end
end L2

set_option maxHeartbeats 4000000
/-! own operators: a + b of two instances of a class with its own __add__; len(a) with its own __len__ -/
namespace Ru
open PySem PySem.Spec PyProof.Rows L2 StX
/-- the class stands first in its own order -/
def mroHd (K : PySem.W.Frag) (C : Addr) : Bool := match PySem.W.clsIn K C with
  | some cd => (match cd.mro with
    | .ref D :: _ => decide (D = C)
    | _ => false)
  | none => false
section
variable {prog : Program} {w : World} {A : Around} {E : Value → Shared → Prop} {s : Shared} {K : PySem.W.Frag} {C f : Addr} {nm : String}
theorem mro_hd {h : Heap} (X : K.In h) (hm : mroHd K C = true) : ∃ rest, PySem.W.Looks (model prog w) h (mroOf (.ref C)) (.ref C :: rest) := by
  unfold mroHd at hm
  cases e : PySem.W.clsIn K C with
  | none => rw [e] at hm; cases hm
  | some cd =>
    rw [e] at hm
    have L : PySem.W.Looks (model prog w) h (mroOf (.ref C)) cd.mro := (PySem.W.looks_clsIn X e).andThen .now
    cases em : cd.mro with
    | nil =>
      have hm2 : (match cd.mro with
        | .ref D :: _ => decide (D = C)
        | _ => false) = true := hm
      rw [em] at hm2; cases hm2
    | cons v rest =>
      have hm2 : (match cd.mro with
        | .ref D :: _ => decide (D = C)
        | _ => false) = true := hm
      rw [em] at hm2 L
      cases v with
      | ref D =>
        have e2 : D = C := of_decide_eq_true hm2
        rw [e2] at L
        exact ⟨rest, L⟩
      | _ => cases hm2
theorem fills_own {h : Heap} {g : Array GenState} {d : Drawn} {t : Nat} {os : OsState} {Q : Bool → Shared → Prop} (X : K.In h) (hm : mroHd K C = true) (ha : PySem.W.findIn K (.ref C) (dunder nm) = some (some (.ref f))) (hq : Q true ⟨h, g, d, t, os⟩) :
    wpAny (model prog w) A (fillsNumberSlot (.ref C) nm) Q E ⟨h, g, d, t, os⟩ := by
  obtain ⟨rest, L⟩ := mro_hd (prog := prog) (w := w) X hm
  unfold fillsNumberSlot
  refine wpAny_bind (L.at ?_)
  simp only [List.anyM]
  refine wpAny_bind (wpAny_bind ?_)
  refine wpAny_bind ((PySem.W.looks_findIn X ha).at ?_)
  have ho : ownNameWrapper (.ref f) (dunder nm) = false := rfl
  dsimp only
  rw [ho]
  exact wpAny_pure (wpAny_pure (wpAny_pure hq))
/-- a.m(b) by the class, its answer never NotImplemented -/
theorem try_own {a b : Addr} {m : Str} {Q : Option Value → Shared → Prop} (X : K.In s.heap) {oa : Obj} (ho : s.heap.get? a = some oa) (hc : oa.cls = .ref C) (ha : PySem.W.findIn K (.ref C) m = some (some (.ref f))) (hf : PySem.W.isFn K (.ref f) = true)
    (h : wpAny (model prog w) A (call (.ref f) [.ref a, .ref b]) (fun v s' => v ≠ .notImplemented ∧ Q (some v) s') E s) : wpAny (model prog w) A (tryMethod (.ref a) m (.ref b)) Q E s := by
  obtain ⟨hh, g, d, t, os⟩ := s
  have sp : PySem.W.Looks (model prog w) hh (specialOf (.ref a) m) (some (.ref f)) := (NwA.type_at ho hc).andThen (PySem.W.looks_findIn X ha)
  unfold tryMethod callSpecial?
  refine wpAny_bind (wpAny_bind (sp.at ?_))
  refine wpAny_holding (wpAny_bind ((PySem.W.bind_fn X _ (beq_iff_eq.mp hf)).at ?_))
  refine wpAny_bind (wpAny_mono h (fun v s' ⟨hn, hq⟩ => ?_) fun _ _ z => z)
  refine wpAny_pure ?_
  cases v <;> first | exact wpAny_pure hq | exact absurd rfl hn
theorem bin1_own {a b : Addr} {Q : Option Value → Shared → Prop} (X : K.In s.heap) (hm : mroHd K C = true) {oa ob : Obj} (ha : s.heap.get? a = some oa) (hac : oa.cls = .ref C) (hb : s.heap.get? b = some ob) (hbc : ob.cls = .ref C)
    (hi : PySem.W.findIn K (.ref C) (dunder nm) = some (some (.ref f))) (hf : PySem.W.isFn K (.ref f) = true)
    (h : wpAny (model prog w) A (call (.ref f) [.ref a, .ref b]) (fun v s' => v ≠ .notImplemented ∧ Q (some v) s') E s) : wpAny (model prog w) A (binaryOp1 nm (.ref a) (.ref b)) Q E s := by
  have ht : ∀ {α : Type} {x : α}, True := fun {_ _} => trivial
  obtain ⟨hh, g, d, t, os⟩ := s
  simp only [binaryOp1]
  refine wpAny_bind ((NwA.type_at ha hac).at (wpAny_bind ((NwA.type_at hb hbc).at (wpAny_bind (fills_own X hm hi ?_)))))
  simp only [beq_self_eq_true, if_true, pure_bind, Bool.and_false, Bool.false_and, Bool.false_eq_true, if_false]
  exact wpAny_bind (try_own X ha hac hi hf (wpAny_mono h (fun v s' ⟨hn, hq⟩ => ⟨hn, wpAny_pure hq⟩) fun _ _ z => z))
end
section
variable {X : Cx} {CX : CXT} {k : Nat} {f C : Addr} {fd : FuncData} {ps : List Str} {sp : Sp} {E : XK}
theorem relV_ni {v : V} {u : Value} (r : RelV v u) : u ≠ .notImplemented := fun z => by
  subst z
  cases v <;> first | (obtain ⟨_, e⟩ := r; cases e) | cases r
theorem ins_obj {P : Program} {w : World} {H : Hp} {h : Heap} {a C dx : Addr} {fs : List (Str × V)} (hok : HOk P w H h) (e : H a = some (.ins C dx fs)) : ∃ oa, h.get? a = some oa ∧ oa.cls = .ref C := by
  obtain ⟨mA, O, r, _, _, _⟩ := ins_get hok e
  exact ⟨_, O.obj, rfl⟩
/-- a + b of instances of C -/
def rOwnB (C : Addr) (sp : Sp) (E : XK) : R2 := fun x y H Q => ∃ a dx fs b dy gs, x = .ref a ∧ y = .ref b ∧ H a = some (.ins C dx fs) ∧ H b = some (.ins C dy gs) ∧ sp [.ref a, .ref b] H Q E
theorem op_ownAdd (hm : mroHd X.K C = true) (mt : Meth X.K C "__add__" f) (F : FnOk X.prog X.w X.K X.mg X.base CX k f fd ps sp) (hb : Binds X.K fd ps []) (hr : Room k X.A) (hx : Passes CX X E) : OpR X (binaryOp .Add) (rOwnB C sp E) := by
  intro pins s σ H x y v u Q I rx ry h
  obtain ⟨a, dx, fs, b, dy, gs, rfl, rfl, ea, eb, q⟩ := h
  obtain rfl : v = Value.ref a := rx
  obtain rfl : u = Value.ref b := ry
  obtain ⟨oa, ha, hac⟩ := ins_obj I.hok ea
  obtain ⟨ob, hb', hbc⟩ := ins_obj I.hok eb
  unfold binaryOp
  refine wpAny_holding (wpAny_bind (bin1_own (nm := "add") (C := C) (f := f) I.kIn hm ha hac hb' hbc mt.at_ mt.fn ?_))
  refine thn (run_fn (us := [.ref a, .ref b]) (vs := [.ref a, .ref b]) F hr hb .nil hx I (.cons rfl (.cons rfl .nil)) q) fun v s' e => ?_
  have ev := e
  obtain ⟨vv, H', I', rv, _⟩ := e
  exact ⟨relV_ni rv, wpAny_pure ev⟩
/-- len(a), a an instance of C with its own __len__ -/
theorem call_lenOwn (mt : Meth X.K C "__len__" f) (F : FnOk X.prog X.w X.K X.mg X.base CX k f fd ps sp) (hb : Binds X.K fd ps []) (hr : Room (k + 1) X.A) (hx : Passes CX X.nox E) :
    CallR X (.builtin "len") (fun xs H Q => ∃ a dx fs, xs = [.ref a] ∧ H a = some (.ins C dx fs) ∧ sp [.ref a] H (fun v H' => ∃ n : Nat, v = .int n ∧ n < 2 ^ 62 ∧ Q (.int n) H') E) := by
  intro pins s σ H xs us Q I r h
  obtain ⟨a, dx, fs, rfl, ea, q⟩ := h
  obtain ⟨u, rfl, ru⟩ := r.one
  obtain rfl : u = Value.ref a := ru
  obtain ⟨oa, ha, hac⟩ := ins_obj I.hok ea
  refine Calls.call_function_entry kind_len plain_len entry_len (args_len1 _) ?_
  have X0 := I.kIn
  have run : codeAny (model X.prog X.w) X.A.in1 (.call (.ref f) ⟨[.ref a], []⟩) (CR CX X.stack X.prog X.w H s (fun v H' => ∃ n : Nat, v = .int n ∧ n < 2 ^ 62 ∧ Q (.int n) H') E) s := by
    refine F.run X.A.in1 X.stack s H ⟨[.ref a], []⟩ [.ref a] [.ref a] _ E hr.in1 I.env0.in1 (hb s [.ref a] X0 ?_) (.cons rfl .nil) q
    have e := F.len _ _ _ _ q
    exact e
  have sp1 : PySem.W.Looks (model X.prog X.w) s.heap (specialOf (.ref a) (PySem.Str.ofString "__len__")) (some (.ref f)) := (NwA.type_at ha hac).andThen (PySem.W.looks_findIn X0 mt.at_)
  unfold Builtin.«len»
  refine wpAny_bind (m := oneArg "len" _) (wpAny_pure ?_)
  obtain ⟨hh, g, d, t, os⟩ := s
  refine wpAny_bind (m := callSpecial? (.ref a) (PySem.Str.ofString "__len__")) ?_
  unfold callSpecial?
  refine wpAny_bind (sp1.at ?_)
  refine wpAny_holding (wpAny_bind ((PySem.W.bind_fn X0 _ (beq_iff_eq.mp mt.fn)).at ?_))
  refine wpAny_bind (wpAny_call (codeAny_mono run fun r s' hq => ?_))
  cases r with
  | error er => exact False.elim (hx pins σ H _ er s' (I.wish _) hq)
  | ok fl =>
    cases fl with
    | ret u =>
      obtain ⟨v, H', I3, rv, n, rfl, hn, q3⟩ := I.after hq
      obtain ⟨tn, rfl⟩ := rv
      refine wpAny_pure ?_
      show wpAny _ _ (holding [Value.int (n : Int) tn] (asIndex (Value.int (n : Int) tn)) >>= _) _ _ _
      refine wpAny_bind (wpAny_holding (wpAny_pure ?_))
      refine wpAny_bind (wpAny_letGo ?_)
      have n0 : ¬ (((n : Nat) : Int) < 0) := by omega
      have n1 : ¬ (((n : Nat) : Int) ≥ 2 ^ 63) := by
        have : (n : Int) < 2 ^ 62 := by exact_mod_cast hn
        omega
      simp only [n0, n1, if_false]
      exact wpAny_bind (wpAny_mkInt (wpAny_pure ⟨_, rfl, ⟨.int (n : Int), H', I3.tok _, ⟨_, rfl⟩, q3⟩⟩))
    | next => exact False.elim hq
    | brk => exact False.elim hq
    | cont => exact False.elim hq
end
section
variable {X : Cx} {CX : CXT} {k i : Nat} {f C : Addr} {fd : FuncData} {ps : List Str} {sp : Sp} {E : XK} {x : Str} {e : Expr} {es : List Expr} {t : TA} {te : TE} {p pos sq : Pos}
theorem toR {P : Program} {w : World} {K : PySem.W.Frag} {mg : Str → Option Value} {base : Heap} (F : FnOk P w K mg base CX k f fd ps sp) (hb : Binds K fd ps []) : FnR P w K mg base CX k f sp := by
  intro A outer s H us vs Q E hr e0 r h
  have hl : us.length = ps.length := by rw [← r.length]; exact F.len _ _ _ _ h
  have KX : K.In s.heap := e0.mod.kin.keeps fun b o q => (e0.bs b o q).1
  have z := hb s us KX (by rw [List.append_nil]; exact hl)
  rw [List.append_nil] at z
  exact F.run A outer s H ⟨us, []⟩ us vs Q E hr e0 z r h
/-- x(e, ..), x a name of the def that holds the class at C -/
def tMakeL (C : Addr) (i : Nat) (sp : Sp) (E : XK) (t : TA) : TE := fun σ H Q => σ[i]? = some (some (.ref C)) ∧ tMakeR C sp E t σ H Q
theorem pe_makeL (M : Mk X.K C f) (F : FnR X.prog X.w X.K X.mg X.base CX k f sp) (hr : Room (k + 1) X.A) (hN : X.N[i]? = some x) (hv : Vis X.env.scope x) (hx : Passes CX X E) (ha : PA X (e :: es) t)
    (hdb : (x == ("__debug__" : Str)) = false := by decide) (hcd : (x == ("__classdict__" : Str)) = false := by decide)
    (he : starEach (e :: es) X.env = (false, eval e X.env) :: starEach es X.env := by rfl) (hpl : (backTo pos (starEach es X.env)).any (·.1) = false := by rfl) : PE X (.Call (.Name x p) (e :: es) [] pos) (tMakeL C i sp E t) := by
  refine ⟨fun pins s σ H Q I h => ?_⟩
  obtain ⟨hs, ht⟩ := h
  refine wpAny_Call_Name_kw (thn ((pe_var (pos := p) hN hv hdb hcd).run pins s σ H (fun v Hy => v = .ref C ∧ Hy = H) I ⟨.ref C, hs, rfl, rfl⟩) fun u sy ⟨v, Hy, Iy, ry, qy⟩ => ?_)
  obtain ⟨rfl, rfl⟩ := qy
  obtain rfl : u = Value.ref C := ry
  exact PySem.W.callWith_K (h₀ := X.base) I.ok.mod.kin M.kp (thn (ha.run pos pins sy σ _ _ Iy ht) fun us sz ⟨vs, Hz, Iz, r, q⟩ => ⟨Iz.kIn, run_makeR M F hr hx Iz r q⟩) he hpl
/-- x(), x the class at C -/
theorem pe_makeR0 (M : Mk X.K C f) (F : FnR X.prog X.w X.K X.mg X.base CX k f sp) (hr : Room (k + 1) X.A) (hg : Gl X x) (hm : X.mg x = some (.ref C)) (hx : Passes CX X E) (hdb : (x == ("__debug__" : Str)) = false := by decide) :
    PE X (.Call (.Name x p) [] [] pos) (tMakeR C sp E tNil) := by
  refine ⟨fun pins s σ H Q I h => ?_⟩
  refine wpAny_Call_Name_kw (ld_glob I hg hm ?_ hdb)
  exact PySem.W.callWith_K0 I.kIn M.kp (run_makeR (us := []) (vs := []) M F hr hx I .nil h)
/-- x(*e), x the class at C -/
def tMakeSt (K : PySem.W.Frag) (C : Addr) (sp : Sp) (E : XK) (te : TE) : TE := fun σ H Q => te σ H fun y H1 => ∃ a xs, y = V.ref a ∧ (SqT K H1 a xs ∨ SqL K H1 a xs) ∧
  ∀ x dx, H1 x = Option.none → H1 dx = Option.none → dx ≠ x → sp (V.ref x :: xs) (upd (upd H1 dx (.own x)) x (.ins C dx [])) (fun v H2 => v = .non ∧ Q (.ref x) H2) E
theorem pe_makeSt (M : Mk X.K C f) (F : FnR X.prog X.w X.K X.mg X.base CX k f sp) (hr : Room (k + 1) X.A) (hg : Gl X x) (hm : X.mg x = some (.ref C)) (hx : Passes CX X E) (he : PE X e te) (hdb : (x == ("__debug__" : Str)) = false := by decide)
    (hst : starEach [.Starred e sq] X.env = [(true, eval e X.env)] := by rfl) : PE X (.Call (.Name x p) [.Starred e sq] [] pos) (tMakeSt X.K C sp E te) := by
  refine ⟨fun pins s σ H Q I h => ?_⟩
  refine wpAny_Call_Name_kw (ld_glob I hg hm ?_ hdb)
  refine PySem.W.callWith_S (h₀ := X.base) I.ok.mod.kin M.kp (thn (he.run pins s σ H _ I h) fun v sy ⟨y, Hy, Iy, ry, a, xs, ey, hxs, q⟩ => ?_) hst
  subst ey
  obtain rfl : v = Value.ref a := ry
  exact star_any Iy hxs fun us sz Iz rv => ⟨Iz.kIn, run_makeR M F hr hx Iz rv q⟩
/-- nothing is raised there -/
theorem passNo {P : Program} {w : World} (hp : X.prog = P) (hw : X.w = w) : Passes (L2.CX P w) X (fun _ _ _ => False) := fun pins σ H s e s' I c => by
  obtain ⟨_, _, _, _, _, _, _, _, _, _, _, _, z⟩ := c
  exact z.elim
/-- lcm(i, j) -/
def rLcm : List V → Hp → VK → Prop := fun vs H Q => ∃ i j : Nat, vs = [.int i, .int j] ∧ i < 2 ^ 62 ∧ j < 2 ^ 62 ∧ Q (.int ((Nat.lcm i j : Nat) : Int)) H
theorem cr_lcm : CallR X (.builtin "math.lcm") rLcm := by
  intro pins s σ H vs us Q I r h
  obtain ⟨i, j, rfl, hi, hj, q⟩ := h
  obtain ⟨u1, u2, rfl, r1, r2⟩ := r.two
  obtain ⟨t1, rfl⟩ := r1
  obtain ⟨t2, rfl⟩ := r2
  have e1 : ((i : Int)).natAbs = i := rfl
  have e2 : ((j : Int)).natAbs = j := rfl
  exact PySem.W.mc_lcm (by rw [e1]; exact Nat.lt_trans hi (by decide)) (by rw [e2]; exact Nat.lt_trans hj (by decide)) fun _ => ⟨.int _, H, I.tok _, ⟨_, rfl⟩, q⟩
end
end Ru

/-! a head's facts, further: tables of code objects, defs that close over __class__, errors' classes -/
namespace Hq2
open PySem PySem.Spec PyProof.Rows L2 Hq
/-! ### a def that closes over its class -/
abbrev Mx : Type := Option (Str × Str × Arguments × FuncBody × Scope × Addr × List Str × Value × Value × Addr)
def moX (K : PySem.W.Frag) (f : Addr) : Mx := match K.lookup f with
  | some { data := Data.func d, .. } => some (d.name, d.qualname, d.params, d.body, d.scope, d.globals, d.closure.map (·.1), d.defaults, d.kwdefaults, d.builtins)
  | _ => none
def mvX (name qual : Str) (st : Stmt) : Mx := some (name, qual, defArgs st, .stmts (defBody st), defScope st, mainGlobals, ["__class__"], .none, .none, builtinsNs)
def cellB (K : PySem.W.Frag) (a C : Addr) : Bool := match K.lookup a with
  | some { data := Data.cell (some (Value.ref D)), .. } => decide (D = C)
  | _ => false
theorem cellB_ok {K : PySem.W.Frag} {a C : Addr} (h : cellB K a C = true) : ∃ (cl : Value) (cld : Option Addr) (csl : Array (Option Value)), K.lookup a = some ⟨cl, cld, .cell (some (.ref C)), csl⟩ := by
  unfold cellB at h
  split at h
  · rename_i cl cld D csl hq
    have ed := of_decide_eq_true h
    subst ed
    exact ⟨_, _, _, hq⟩
  · cases h
def fileB (K : PySem.W.Frag) (v : Value) (file : Str) : Bool := match v with
  | Value.ref c => (match K.lookup c with
    | some { data := Data.fields vs, .. } => (match vs[2]? with
      | some (Value.str fl _) => decide (fl = file)
      | _ => false)
    | _ => false)
  | _ => false
theorem fileB_ok {K : PySem.W.Frag} {v : Value} {file : Str} (h : fileB K v file = true) : ∃ cda : Addr, v = .ref cda ∧ ∃ (ccl : Value) (cdd : Option Addr) (vs : Array Value) (ccs : Array (Option Value)) (tf : Tok), K.lookup cda = some ⟨ccl, cdd, .fields vs, ccs⟩ ∧ vs[2]? = some (.str file tf) := by
  unfold fileB at h
  split at h
  · rename_i c
    split at h
    · rename_i ccl cdd vs ccs hq
      split at h
      · rename_i fl tf hv
        have ef := of_decide_eq_true h
        subst ef
        exact ⟨c, rfl, _, _, _, _, tf, hq, hv⟩
      · cases h
    · cases h
  · cases h
def ccB (K : PySem.W.Frag) (f C : Addr) : Bool := match K.lookup f with
  | some { data := Data.func d, .. } => d.closure.all fun p => cellB K p.2 C
  | _ => false
def flB (K : PySem.W.Frag) (f : Addr) (file : Str) : Bool := match K.lookup f with
  | some { data := Data.func d, .. } => fileB K d.code file
  | _ => false
theorem mx_ok {K : PySem.W.Frag} {f C : Addr} {name qual file : Str} {st : Stmt} (e : moX K f = mvX name qual st) (c : coB K f qual = true) (h1 : ccB K f C = true) (h2 : flB K f file = true) :
    ∃ (oc : Value) (od : Option Addr) (doc pm : Value) (an : Option Addr) (cda cc : Addr) (ct : Value) (osl : Array (Option Value)),
      K.lookup f = some ⟨oc, od, .func (PySem.W.ksFn name qual (defArgs st) (defBody st) (defScope st) .none .none doc pm an (.ref cda) ct cc), osl⟩ ∧ PySem.W.codeIn K (.ref cda) qual = true ∧
      (∃ (ccl : Value) (cdd : Option Addr) (vs : Array Value) (ccs : Array (Option Value)) (tf : Tok), K.lookup cda = some ⟨ccl, cdd, .fields vs, ccs⟩ ∧ vs[2]? = some (.str file tf)) ∧
      (∃ (cl : Value) (cld : Option Addr) (csl : Array (Option Value)), K.lookup cc = some ⟨cl, cld, .cell (some (.ref C)), csl⟩) := by
  unfold moX at e
  unfold coB at c
  unfold ccB at h1
  unfold flB at h2
  cases q : K.lookup f with
  | none => rw [q] at c; cases c
  | some o =>
    obtain ⟨oc, od, dt, osl⟩ := o
    rw [q] at c e h1 h2
    cases dt with
    | func fd =>
      obtain ⟨n1, n2, n3, n4, n5, n6, n7, n8, n9, n10, n11, n12, n13, n14, n15⟩ := fd
      have e2 : (some (n1, n2, n3, n4, n5, n6, n7.map (·.1), n8, n9, n15) : Mx) = (some (name, qual, defArgs st, FuncBody.stmts (defBody st), defScope st, mainGlobals, ["__class__"], Value.none, Value.none, builtinsNs) : Mx) := e
      simp only [Option.some.injEq, Prod.mk.injEq] at e2
      obtain ⟨e1, e3, e4, e5, e6, e7, e8, e9, e10, e11⟩ := e2
      subst e1 e3 e4 e5 e6 e7 e9 e10 e11
      have h1 : (n7.all fun p => cellB K p.2 C) = true := h1
      have h2 : fileB K n13 file = true := h2
      have ln : n7.length = 1 := by
        have z := congrArg List.length e8
        rw [List.length_map] at z
        exact z
      match n7, ln with
      | [(nm, cc)], _ =>
        have enm : nm = ("__class__" : Str) := (List.cons.inj e8).1
        subst enm
        obtain ⟨cda, rfl, hc⟩ := fileB_ok h2
        have h1 : (cellB K cc C && true) = true := h1
        rw [Bool.and_true] at h1
        exact ⟨oc, od, n10, n11, n12, cda, cc, n14, osl, rfl, c, hc, cellB_ok h1⟩
    | _ => cases c
/-! ### an error's class -/
def ixClsB (K : PySem.W.Frag) (C : Addr) : Bool := match K.lookup C with
  | some ⟨Value.type "type", _, Data.cls cd, sl⟩ => (match cd.mro, sl.toList with
    | Value.ref D :: bm, [_, _, _, _, some (Value.builtin n), _] => decide (D = C) && (decide (n = "ValueError.__new__") && (!cd.hasDel && (cd.hasDict && PySem.HandSPX.refsVE bm)))
    | _, _ => false)
  | _ => false
theorem ixClsB_ok {K : PySem.W.Frag} {C : Addr} (h : ixClsB K C = true) : ∃ nm q N bs bm sn sub ab col dd k0 k1 k2 k3 k5, K.lookup C = some (excClassObj nm q C N bs bm true sn sub ab col dd k0 k1 k2 k3 k5 "ValueError.__new__") ∧ PySem.HandSPX.refsVE bm = true := by
  unfold ixClsB at h
  split at h
  · rename_i dd cd sl ho
    split at h
    · rename_i D bm k0 k1 k2 k3 n k5 hm hs
      obtain ⟨a1, h⟩ := He.ba h
      obtain ⟨a2, h⟩ := He.ba h
      obtain ⟨a3, h⟩ := He.ba h
      obtain ⟨a4, a5⟩ := He.ba h
      have e1 := of_decide_eq_true a1
      have e2 := of_decide_eq_true a2
      subst e1 e2
      obtain ⟨nm, bs, mro, ns, qn, hd, sn, sub, ab, col, del⟩ := cd
      have e3 : del = false := by simpa using a3
      have e4 : hd = true := a4
      have e5 : mro = Value.ref D :: bm := hm
      subst e3 e4 e5
      have hsl : sl = #[k0, k1, k2, k3, some (.builtin "ValueError.__new__"), k5] := by
        obtain ⟨l⟩ := sl
        have hs : l = _ := hs
        rw [hs]
      subst hsl
      exact ⟨nm, qn, ns, bs, bm, sn, sub, ab, col, dd, k0, k1, k2, k3, k5, ho, a5⟩
    · cases h
  · cases h
def excB (K : PySem.W.Frag) (D : Addr) : Bool := He.eqO (PySem.W.findIn K (.ref D) "__getattribute__") (some (some (.builtin "BaseException.__getattribute__"))) && (He.eqO (PySem.W.findIn K (.ref D) "__getattr__") (some none) &&
  (decide (PySem.W.subIn K (.ref D) (.type "BaseException") = some true) && (PySem.W.hasDictIn K D && (He.eqO (PySem.W.findIn K (.ref D) "__class__") (some (some (.builtin "object.__class__"))) &&
  (He.eqO (PySem.W.specialIn K (.builtin "object.__class__") "__get__") (some (some (.builtin "getset_descriptor.__get__"))) && (decide (PySem.W.takesIn K (.builtin "object.__class__") = some true) && decide (PySem.W.mroIn K D (.type "object") = some true)))))))
theorem excB_ok {K : PySem.W.Frag} {D : Addr} (h : excB K D = true) : ExcC K D := by
  obtain ⟨h1, h⟩ := He.ba h
  obtain ⟨h2, h⟩ := He.ba h
  obtain ⟨h3, h⟩ := He.ba h
  obtain ⟨h4, h⟩ := He.ba h
  obtain ⟨h5, h⟩ := He.ba h
  obtain ⟨h6, h⟩ := He.ba h
  obtain ⟨h7, h8⟩ := He.ba h
  exact ⟨He.eqO_ok h1, He.eqO_ok h2, of_decide_eq_true h3, h4, He.eqO_ok h5, He.eqO_ok h6, of_decide_eq_true h7, of_decide_eq_true h8⟩
/-- what IxTxt asks of the class beside the def's text -/
def ixB (K : PySem.W.Frag) (C : Addr) : Bool := ixClsB K C && (He.eqO (PySem.W.findIn K (.ref C) "__setattr__") (some (some (.builtin "object.__setattr__"))) && (He.eqO (PySem.W.findIn K (.ref C) "index") (some none) &&
  (He.eqO (PySem.W.findIn K (.ref C) "__init__") (some (some (.ref (He.ma K C "__init__")))) && (decide (PySem.W.typeIn K (.ref (He.ma K C "__init__")) = some (.type "function")) && (PySem.W.keepIn K (.ref C) &&
  (decide (PySem.W.typeIn K (.ref C) = some (.type "type")) && (decide (PySem.W.mroIn K C (.ref C) = some true) && (He.eqO (PySem.W.ks_superIn K C C "__init__") (some (some (.builtin "ValueError.__init__"))) &&
  (decide (PySem.W.subIn K (.ref C) (.type "ValueError") = some true) && He.eqO (PySem.W.nsIn K cStatics "thirdparty.any") (some none))))))))))
/-! ### a class's constant, read off the class -/
def cvalB (K : PySem.W.Frag) (C : Addr) (x : Str) (i : Int) : Bool := match PySem.W.findCls K (.ref C) (.type "type") x with
  | some (.val (.int j _)) => decide (j = i)
  | _ => false
theorem cvalB_ok {K : PySem.W.Frag} {C : Addr} {x : Str} {i : Int} (h : cvalB K C x i = true) : ∃ t, ClX.CVal K C (.type "type") x (.int i) (.int i t) := by
  unfold cvalB at h
  split at h
  · rename_i j t e
    have ej := of_decide_eq_true h
    subst ej
    exact ⟨t, e, ⟨t, rfl⟩⟩
  · cases h
/-! ### the Hook -/
structure Spc where
  bs : PySem.W.Frag → List Bool
  fs : List ((PySem.W.Frag → Addr) × Mv)
  xs : List ((PySem.W.Frag → Addr) × Mx)
  cs : PySem.W.Frag → List (Addr × Addr)
abbrev Av : Type := Bool × List Mv × List Mx
def obsK (S : Spc) (K : PySem.W.Frag) : Av := ((S.bs K).all id, S.fs.map fun q => mo K (q.1 K), S.xs.map fun q => moX K (q.1 K))
def tabB (S : Spc) (g : Addr → Option Obj) (K : PySem.W.Frag) : Bool := (S.cs K).all fun p => PySem.W.codeHdIn K p.1 p.2 && (match g p.2 with
  | some o => He.emptyTab o
  | none => false)
def wanted (S : Spc) : Av := (true, S.fs.map fun q => q.2, S.xs.map fun q => q.2)
def refX (o : Obj) : List Addr := match o.data with
  | .dict entries _ => entries.toList.flatMap fun q => He.refV q.val
  | .func d => He.refV d.code ++ He.refV d.kwdefaults ++ d.closure.map (·.2)
  | .cls d => [d.ns]
  | .fields parts => parts.toList.flatMap He.refV
  | _ => []
def lvl (g : Addr → Option Obj) (xs : List Addr) : List Addr := xs.flatMap fun b => match g b with
  | some o => refX o
  | none => []
def asX (g : Addr → Option Obj) : Nat → List Addr → List Addr
  | 0, xs => xs
  | n + 1, xs => xs ++ asX g n (lvl g xs)
def frX (n : Nat) (g : Addr → Option Obj) : PySem.W.Frag := He.frT g (cStatics :: asX g n [mainGlobals])
def obsG (n : Nat) (S : Spc) (g : Addr → Option Obj) : Av × Bool := (obsK S (frX n g), tabB S g (frX n g))
/-- what is told of the written part -/
structure Says (S : Spc) (h : Heap) (K : PySem.W.Frag) : Prop where
  k : obsK S K = wanted S
  hd : ∀ p ∈ S.cs K, PySem.W.codeHdIn K p.1 p.2 = true
  out : ∀ p ∈ S.cs K, K.lookup p.2 = none
  empty : ∀ p ∈ S.cs K, h.get? p.2 = some { cls := .none, data := .fields #[] }
theorem says_of {n : Nat} {S : Spc} {h : Heap} (e : obsG n S h.get? = (wanted S, true)) : Says S h (frX n h.get?) := by
  have e1 : obsK S (frX n h.get?) = wanted S := congrArg (fun z : Av × Bool => z.1) e
  have e2 : tabB S h.get? (frX n h.get?) = true := congrArg (fun z : Av × Bool => z.2) e
  have key : ∀ p ∈ S.cs (frX n h.get?), PySem.W.codeHdIn (frX n h.get?) p.1 p.2 = true ∧ ∃ o, h.get? p.2 = some o ∧ He.emptyTab o = true := fun p hp => by
    obtain ⟨h3, h4⟩ := He.ba (List.all_eq_true.mp e2 p hp)
    refine ⟨h3, ?_⟩
    cases q : h.get? p.2 with
    | none => rw [q] at h4; cases h4
    | some o => rw [q] at h4; exact ⟨o, rfl, h4⟩
  refine ⟨e1, fun p hp => (key p hp).1, fun p hp => ?_, fun p hp => ?_⟩
  · obtain ⟨_, o, q, z⟩ := key p hp
    exact He.frT_none q z
  · obtain ⟨_, o, q, z⟩ := key p hp
    rw [q, He.emptyTab_eq z]
def hook (n : Nat) (S : Spc) : PySem.W.Hook where
  α := Av × Bool
  obs := fun s => obsG n S s.heap.get?
  val := fun _ => (wanted S, true)
  says := fun _ h => ∃ K : PySem.W.Frag, K.In h ∧ Says S h K
  of := fun _ _ e => ⟨_, He.frT_in, says_of e⟩
  keeps := fun _ _ _ ⟨K, hK, c⟩ k => ⟨K, PySem.W.Frag.In.keeps hK k, ⟨c.k, c.hd, c.out, fun p hp => k _ _ (c.empty p hp)⟩⟩
theorem obsG_eq {n : Nat} {S : Spc} {g : Addr → Option Obj} {s : Shared} (h : ∀ a, g a = s.heap.get? a) : obsG n S g = (hook n S).obs s := by
  obtain rfl : g = s.heap.get? := funext h
  rfl
section
variable {S : Spc} {K : PySem.W.Frag} {h : Heap}
theorem Says.fact (c : Says S h K) (i : Nat) {b : Bool} (e : (S.bs K)[i]? = some b) : b = true := by
  have c1 : (S.bs K).all id = true := congrArg (fun z : Av => z.1) c.k
  exact List.all_eq_true.mp c1 b (List.mem_of_getElem? e)
theorem Says.fn (c : Says S h K) (i : Nat) {f : PySem.W.Frag → Addr} {v : Mv} (e : S.fs[i]? = some (f, v)) : mo K (f K) = v := by
  have c2 : (S.fs.map fun q => mo K (q.1 K)) = S.fs.map fun q => q.2 := congrArg (fun z : Av => z.2.1) c.k
  have e2 : (S.fs.map fun q => mo K (q.1 K))[i]? = (S.fs.map fun q => q.2)[i]? := by rw [← c2]
  rw [List.getElem?_map, List.getElem?_map, e] at e2
  exact Option.some.inj e2
theorem Says.fx (c : Says S h K) (i : Nat) {f : PySem.W.Frag → Addr} {v : Mx} (e : S.xs[i]? = some (f, v)) : moX K (f K) = v := by
  have c2 : (S.xs.map fun q => moX K (q.1 K)) = S.xs.map fun q => q.2 := congrArg (fun z : Av => z.2.2) c.k
  have e2 : (S.xs.map fun q => moX K (q.1 K))[i]? = (S.xs.map fun q => q.2)[i]? := by rw [← c2]
  rw [List.getElem?_map, List.getElem?_map, e] at e2
  exact Option.some.inj e2
end
/-! ### the end: the written part is told by what the head says -/
theorem walk_tab {l : PySem.W.OpenLaw} {n k : Nat} {q : Program} {loose : List Str} {XP : (Str → Option Value) → Heap → Prop} {YP : World → Heap → Prop} {d : DefRec} {CX : World → CXT} {x : Str}
    (hn : l.most = some n) (hn2 : n ≤ sizeLine) (hdf : d.params.defaults = []) (hr : Room k callerA)
    (F : ∀ (w : World) (mg : Str → Option Value) (fa : Addr) (h : Heap), YP w h → h.Ns mainGlobals mg → mg d.name = some (.ref fa) → ∃ K : PySem.W.Frag, K.In h ∧ LamX.LawAtS l w K (CX w) k n x mg fa h)
    (hCX : ∀ (w : World) (H : Hp) (s : Shared) (e : Value) (s' : Shared), CX w [] H s (fun _ _ _ => False) e s' → False) :
    PySem.W.WalkO q loose XP YP l.row.toRowW d [] (fun f vs => PySem.call f vs) := by
  refine Att.attach_callB hn hdf fun w s₀ s₁ mg mb fa o pm cd doc a vs ns G Y ho hd hcd hmg hobj hints hlen hbits hg => ?_
  obtain ⟨K, KX, fd, cs, sp, hT, nT, C, hb, hsp, hF⟩ := F w mg fa _ Y G.T.g hmg
  exact LamX.law_callTs KX G.T.g G.T.b G.T.builtins G.T.nolimit hg hT nT C G.T.bmain hobj hints (Nat.le_trans hlen hn2) hr hF hb (fun H hH hS => hsp H a ns hlen hbits hH hS) fun H e s' => hCX w H s₁ e s'
end Hq2

/-! the kernel's run in parts: each part runs the top anew and looks at something else -/
noncomputable section
namespace Hq3
open PySem PySem.Spec PyProof.Rows PySem.W HandSHeadRun
def app (S T : Hq2.Spc) : Hq2.Spc := ⟨fun K => S.bs K ++ T.bs K, S.fs ++ T.fs, S.xs ++ T.xs, fun K => S.cs K ++ T.cs K⟩
theorem obsG_app {n : Nat} {S T : Hq2.Spc} {g : Addr → Option Obj} (h1 : Hq2.obsG n S g = (Hq2.wanted S, true)) (h2 : Hq2.obsG n T g = (Hq2.wanted T, true)) : Hq2.obsG n (app S T) g = (Hq2.wanted (app S T), true) := by
  unfold Hq2.obsG at *
  generalize Hq2.frX n g = K at *
  have a1 := congrArg (fun z : Hq2.Av × Bool => z.1.1) h1
  have a2 := congrArg (fun z : Hq2.Av × Bool => z.1.2.1) h1
  have a3 := congrArg (fun z : Hq2.Av × Bool => z.1.2.2) h1
  have a4 := congrArg (fun z : Hq2.Av × Bool => z.2) h1
  have b1 := congrArg (fun z : Hq2.Av × Bool => z.1.1) h2
  have b2 := congrArg (fun z : Hq2.Av × Bool => z.1.2.1) h2
  have b3 := congrArg (fun z : Hq2.Av × Bool => z.1.2.2) h2
  have b4 := congrArg (fun z : Hq2.Av × Bool => z.2) h2
  dsimp only [Hq2.obsK, Hq2.wanted] at a1 a2 a3 b1 b2 b3
  dsimp only at a4 b4
  have e1 : Hq2.obsK (app S T) K = Hq2.wanted (app S T) := by
    unfold Hq2.obsK Hq2.wanted app
    simp only [List.map_append, List.all_append, a1, a2, a3, b1, b2, b3]
    rfl
  have e2 : Hq2.tabB (app S T) g K = true := by
    unfold Hq2.tabB app at *
    rw [List.all_append, a4, b4]
    rfl
  rw [e1, e2]
/-- the top's run, to its end -/
abbrev whole (r : OpenRow) (M : Nat) (w : World) := wholeF (fun p => stepQ (denQ tabQ) p w) fenceQ M r.prog
theorem run_of {r : OpenRow} {q : Program} {n M : Nat} {S : Hq2.Spc} {ob : SharedT → Hq2.Av × Bool} {loose : List PySem.Str} {w : World} (ho : ∀ s, ob s = Hq2.obsG n S (HandSHeadRun.getT s)) (a : (whole r M w).map (fun x => looksF r.prog x.1.heap x.2.abs) = some true)
    (b : (whole r M w).map (fun x => seenQ q loose (importedModules r.prog.main.body) (fun s => xlAt q [] s && recOk r.toRowW.records s) x.2.abs) = some (openGood q loose))
    (c : (whole r M w).map (fun x => Hq2.obsG n S (HandSHeadRun.getT x.2)) = some (Hq2.wanted S, true)) : RunEqI r q (Hq2.hook n S) ob M loose w := by
  show (whole r M w).map _ = _
  cases e : whole r M w with
  | none => rw [e] at a; cases a
  | some x =>
    rw [e] at a b c
    simp only [Option.map_some, Option.some.injEq] at a b c ⊢
    rw [a, b, ho, c]
    rfl
theorem run_app {r : OpenRow} {n M : Nat} {S T : Hq2.Spc} {w : World} (c : (whole r M w).map (fun x => Hq2.obsG n S (HandSHeadRun.getT x.2)) = some (Hq2.wanted S, true)) (d : (whole r M w).map (fun x => Hq2.obsG n T (HandSHeadRun.getT x.2)) = some (Hq2.wanted T, true)) :
    (whole r M w).map (fun x => Hq2.obsG n (app S T) (HandSHeadRun.getT x.2)) = some (Hq2.wanted (app S T), true) := by
  cases e : whole r M w with
  | none => rw [e] at c; cases c
  | some x =>
    rw [e] at c d
    simp only [Option.map_some, Option.some.injEq] at c d ⊢
    exact obsG_app c d
end Hq3

namespace W6
open PySem PySem.Spec PyProof.Rows L2 Ru StX
def isS {α : Type} : Option α → Bool | some _ => true | none => false
def gloB (K : PySem.W.Frag) (x : Str) : Bool := He.eqO (PySem.W.nsIn K mainGlobals x) (some (some (.ref (He.ga K x))))
def epL (K : PySem.W.Frag) (nm : Str) : List Bool := [gloB K nm, Hq2.excB K (He.ga K nm), PySem.W.excIn K (He.ga K nm) [.type "ValueError", .type "Exception", .type "BaseException", .type "object"] "ValueError.__new__", PySem.W.keepIn K (.ref (He.ga K nm)), decide (PySem.W.subIn K (.ref (He.ga K nm)) (.type "BaseException") = some true), decide (PySem.W.typeIn K (.ref (He.ga K nm)) = some (Value.type "type"))]
def eiL (K : PySem.W.Frag) (nm q file : Str) : List Bool := [gloB K nm, Hq2.excB K (He.ga K nm), He.eqO (PySem.W.nsIn K mainGlobals "super") (some none), Hq2.ixB K (He.ga K nm), Hq.coB K (He.ma K (He.ga K nm) "__init__") q, Hq2.ccB K (He.ma K (He.ga K nm) "__init__") (He.ga K nm), Hq2.flB K (He.ma K (He.ga K nm) "__init__") file]
def xmB (K : PySem.W.Frag) (x y : Str) (c : Bool) : Bool := decide (PySem.W.exmOne K (.ref (He.ga K x)) (.ref (He.ga K y)) = some c)

def wmL (K : PySem.W.Frag) : List Bool := [mroHd K (He.ga K "Weather"), PySem.W.selfFirst K (He.ga K "Weather"), He.eqO (PySem.W.findIn K (.ref (He.ga K "Weather")) (PySem.dunder "mul")) (some (some (.ref (He.ma K (He.ga K "Weather") "__mul__")))), PySem.W.isFn K (.ref (He.ma K (He.ga K "Weather") "__mul__")),
  He.eqO (PySem.W.findIn K (.ref (He.ga K "Weather")) (dunderR "mul")) (some none), isS (PySem.W.findIn K (.type "int") (PySem.dunder "mul")), isS (PySem.W.findIn K (.type "int") (dunderR "mul")), decide (PySem.W.subIn K (.type "int") (.ref (He.ga K "Weather")) = some false)]
abbrev hR : PySem.W.OpenRow := PySem.W.OpenLaw.row PySem.Challenge.rw_warmswitch_k45_whole_far_costs
def hb0 (K : PySem.W.Frag) : List Bool := [
  He.eqO (PySem.W.nsIn K mainGlobals "Weather") (some (some (.ref (He.ga K "Weather")))),
  PySem.W.plainGet K (He.ga K "Weather") Str.empty,
  PySem.W.hasDictIn K (He.ga K "Weather"),
  PySem.W.plainOver K (He.ga K "Weather"),
  He.eqO (PySem.W.findIn K (.ref (He.ga K "Weather")) "__setattr__") (some (some (.builtin "object.__setattr__"))),
  He.eqO (PySem.W.findIn K (.ref (He.ga K "Weather")) "_changes") (some none),
  He.eqO (PySem.W.nsIn K mainGlobals "Prices") (some (some (.ref (He.ga K "Prices")))),
  PySem.W.plainGet K (He.ga K "Prices") Str.empty,
  PySem.W.hasDictIn K (He.ga K "Prices"),
  PySem.W.plainOver K (He.ga K "Prices"),
  He.eqO (PySem.W.findIn K (.ref (He.ga K "Prices")) "__setattr__") (some (some (.builtin "object.__setattr__"))),
  He.eqO (PySem.W.findIn K (.ref (He.ga K "Prices")) "_cents") (some none),
  He.eqO (PySem.W.nsIn K mainGlobals "Timeline") (some (some (.ref (He.ga K "Timeline")))),
  PySem.W.plainGet K (He.ga K "Timeline") Str.empty,
  PySem.W.hasDictIn K (He.ga K "Timeline"),
  PySem.W.plainOver K (He.ga K "Timeline"),
  He.eqO (PySem.W.findIn K (.ref (He.ga K "Timeline")) "__setattr__") (some (some (.builtin "object.__setattr__"))),
  He.eqO (PySem.W.findIn K (.ref (He.ga K "Timeline")) "back") (some none),
  He.eqO (PySem.W.findIn K (.ref (He.ga K "Timeline")) "last") (some none),
  He.eqO (PySem.W.findIn K (.ref (He.ga K "Timeline")) "_begins") (some none),
  He.eqO (PySem.W.nsIn K mainGlobals "HeatingSum") (some (some (.ref (He.ga K "HeatingSum")))),
  PySem.W.plainGet K (He.ga K "HeatingSum") Str.empty,
  PySem.W.hasDictIn K (He.ga K "HeatingSum"),
  PySem.W.plainOver K (He.ga K "HeatingSum"),
  He.eqO (PySem.W.findIn K (.ref (He.ga K "HeatingSum")) "__setattr__") (some (some (.builtin "object.__setattr__"))),
  He.eqO (PySem.W.findIn K (.ref (He.ga K "HeatingSum")) "_on") (some none),
  He.eqO (PySem.W.findIn K (.ref (He.ga K "HeatingSum")) "_amounts") (some none),
  He.eqO (PySem.W.findIn K (.ref (He.ga K "HeatingSum")) "_timeline") (some none),
  He.eqO (PySem.W.findIn K (.ref (He.ga K "HeatingSum")) "_sums") (some none),
  He.eqO (PySem.W.nsIn K mainGlobals "Drift") (some (some (.ref (He.ga K "Drift"))))]
def hb1 (K : PySem.W.Frag) : List Bool := [
  PySem.W.plainGet K (He.ga K "Drift") Str.empty,
  PySem.W.hasDictIn K (He.ga K "Drift"),
  PySem.W.plainOver K (He.ga K "Drift"),
  He.eqO (PySem.W.findIn K (.ref (He.ga K "Drift")) "__setattr__") (some (some (.builtin "object.__setattr__"))),
  He.eqO (PySem.W.findIn K (.ref (He.ga K "Drift")) "round_ticks") (some none),
  He.eqO (PySem.W.findIn K (.ref (He.ga K "Drift")) "round_sum") (some none),
  He.eqO (PySem.W.findIn K (.ref (He.ga K "Drift")) "_sums") (some none),
  He.eqO (PySem.W.nsIn K mainGlobals "Stretch") (some (some (.ref (He.ga K "Stretch")))),
  PySem.W.plainGet K (He.ga K "Stretch") Str.empty,
  PySem.W.hasDictIn K (He.ga K "Stretch"),
  PySem.W.plainOver K (He.ga K "Stretch"),
  He.eqO (PySem.W.findIn K (.ref (He.ga K "Stretch")) "__setattr__") (some (some (.builtin "object.__setattr__"))),
  He.eqO (PySem.W.findIn K (.ref (He.ga K "Stretch")) "on") (some none),
  He.eqO (PySem.W.findIn K (.ref (He.ga K "Stretch")) "begin") (some none),
  He.eqO (PySem.W.findIn K (.ref (He.ga K "Stretch")) "_drifts") (some none),
  He.eqO (PySem.W.findIn K (.ref (He.ga K "Stretch")) "_drift") (some none),
  He.eqO (PySem.W.findIn K (.ref (He.ga K "Stretch")) "_base") (some none),
  He.eqO (PySem.W.nsIn K mainGlobals "Course") (some (some (.ref (He.ga K "Course")))),
  PySem.W.plainGet K (He.ga K "Course") Str.empty,
  PySem.W.hasDictIn K (He.ga K "Course"),
  PySem.W.plainOver K (He.ga K "Course"),
  He.eqO (PySem.W.findIn K (.ref (He.ga K "Course")) "__setattr__") (some (some (.builtin "object.__setattr__"))),
  He.eqO (PySem.W.findIn K (.ref (He.ga K "Course")) "_low") (some none),
  He.eqO (PySem.W.findIn K (.ref (He.ga K "Course")) "_high") (some none),
  He.eqO (PySem.W.findIn K (.ref (He.ga K "Course")) "_stretches") (some none),
  He.eqO (PySem.W.findIn K (.ref (He.ga K "Course")) "_timeline") (some none),
  He.eqO (PySem.W.findIn K (.ref (He.ga K "Course")) "_heating") (some none),
  He.eqO (PySem.W.nsIn K mainGlobals "Heater") (some (some (.ref (He.ga K "Heater")))),
  PySem.W.plainGet K (He.ga K "Heater") Str.empty,
  PySem.W.hasDictIn K (He.ga K "Heater")]
def hb2 (K : PySem.W.Frag) : List Bool := [
  PySem.W.plainOver K (He.ga K "Heater"),
  He.eqO (PySem.W.findIn K (.ref (He.ga K "Heater")) "__setattr__") (some (some (.builtin "object.__setattr__"))),
  He.eqO (PySem.W.findIn K (.ref (He.ga K "Heater")) "_gain") (some none),
  He.eqO (PySem.W.findIn K (.ref (He.ga K "Heater")) "_low") (some none),
  He.eqO (PySem.W.findIn K (.ref (He.ga K "Heater")) "_high") (some none),
  He.eqO (PySem.W.nsIn K mainGlobals "Room") (some (some (.ref (He.ga K "Room")))),
  PySem.W.plainGet K (He.ga K "Room") Str.empty,
  PySem.W.hasDictIn K (He.ga K "Room"),
  PySem.W.plainOver K (He.ga K "Room"),
  He.eqO (PySem.W.findIn K (.ref (He.ga K "Room")) "__setattr__") (some (some (.builtin "object.__setattr__"))),
  He.eqO (PySem.W.findIn K (.ref (He.ga K "Room")) "_weather") (some none),
  He.eqO (PySem.W.findIn K (.ref (He.ga K "Room")) "_heater") (some none),
  He.eqO (PySem.W.findIn K (.ref (He.ga K "Room")) "_start") (some none),
  He.eqO (PySem.W.findIn K (.ref (He.ga K "Room")) "course") (some none),
  He.eqO (PySem.W.findIn K (.ref (He.ga K "Room")) "_unswitched") (some none),
  He.eqO (PySem.W.nsIn K mainGlobals "check_number") (some (some (.ref (He.ga K "check_number")))),
  PySem.W.keepIn K (.ref (He.ga K "check_number")),
  He.eqO (PySem.W.nsIn K mainGlobals "first_invalid") (some (some (.ref (He.ga K "first_invalid")))),
  PySem.W.keepIn K (.ref (He.ga K "first_invalid")),
  He.eqO (PySem.W.nsIn K mainGlobals "sum_of_first") (some (some (.ref (He.ga K "sum_of_first")))),
  PySem.W.keepIn K (.ref (He.ga K "sum_of_first")),
  He.eqO (PySem.W.nsIn K mainGlobals "added_rounds") (some (some (.ref (He.ga K "added_rounds")))),
  PySem.W.keepIn K (.ref (He.ga K "added_rounds")),
  He.eqO (PySem.W.findIn K (.ref (He.ga K "Weather")) "__init__") (some (some (.ref (He.ma K (He.ga K "Weather") "__init__")))),
  PySem.W.isFn K (.ref (He.ma K (He.ga K "Weather") "__init__")),
  PySem.W.keepIn K (.ref (He.ma K (He.ga K "Weather") "__init__")),
  PySem.W.makesIn K (He.ga K "Weather"),
  PySem.W.keepIn K (.ref (He.ga K "Weather")),
  He.eqO (PySem.W.findIn K (.ref (He.ga K "Weather")) "__len__") (some (some (.ref (He.ma K (He.ga K "Weather") "__len__")))),
  PySem.W.isFn K (.ref (He.ma K (He.ga K "Weather") "__len__"))]
def hb3 (K : PySem.W.Frag) : List Bool := [
  PySem.W.keepIn K (.ref (He.ma K (He.ga K "Weather") "__len__")),
  He.eqO (PySem.W.findIn K (.ref (He.ga K "Weather")) "__add__") (some (some (.ref (He.ma K (He.ga K "Weather") "__add__")))),
  PySem.W.isFn K (.ref (He.ma K (He.ga K "Weather") "__add__")),
  PySem.W.keepIn K (.ref (He.ma K (He.ga K "Weather") "__add__")),
  He.eqO (PySem.W.findIn K (.ref (He.ga K "Weather")) "__mul__") (some (some (.ref (He.ma K (He.ga K "Weather") "__mul__")))),
  PySem.W.isFn K (.ref (He.ma K (He.ga K "Weather") "__mul__")),
  PySem.W.keepIn K (.ref (He.ma K (He.ga K "Weather") "__mul__")),
  He.eqO (PySem.W.findIn K (.ref (He.ga K "Prices")) "__init__") (some (some (.ref (He.ma K (He.ga K "Prices") "__init__")))),
  PySem.W.isFn K (.ref (He.ma K (He.ga K "Prices") "__init__")),
  PySem.W.keepIn K (.ref (He.ma K (He.ga K "Prices") "__init__")),
  PySem.W.makesIn K (He.ga K "Prices"),
  PySem.W.keepIn K (.ref (He.ga K "Prices")),
  He.eqO (PySem.W.nsIn K mainGlobals "heating_cost") (some (some (.ref (He.ga K "heating_cost")))),
  PySem.W.keepIn K (.ref (He.ga K "heating_cost")),
  He.eqO (PySem.W.nsIn K mainGlobals "first_over") (some (some (.ref (He.ga K "first_over")))),
  PySem.W.keepIn K (.ref (He.ga K "first_over")),
  He.eqO (PySem.W.nsIn K mainGlobals "cost_share") (some (some (.ref (He.ga K "cost_share")))),
  PySem.W.keepIn K (.ref (He.ga K "cost_share")),
  He.eqO (PySem.W.nsIn K mainGlobals "lowest_terms") (some (some (.ref (He.ga K "lowest_terms")))),
  PySem.W.keepIn K (.ref (He.ga K "lowest_terms")),
  He.eqO (PySem.W.findIn K (.ref (He.ga K "Timeline")) "__init__") (some (some (.ref (He.ma K (He.ga K "Timeline") "__init__")))),
  PySem.W.isFn K (.ref (He.ma K (He.ga K "Timeline") "__init__")),
  PySem.W.keepIn K (.ref (He.ma K (He.ga K "Timeline") "__init__")),
  PySem.W.makesIn K (He.ga K "Timeline"),
  PySem.W.keepIn K (.ref (He.ga K "Timeline")),
  He.eqO (PySem.W.findIn K (.ref (He.ga K "Timeline")) "ticks_of_round") (some (some (.ref (He.ma K (He.ga K "Timeline") "ticks_of_round")))),
  PySem.W.isFn K (.ref (He.ma K (He.ga K "Timeline") "ticks_of_round")),
  PySem.W.keepIn K (.ref (He.ma K (He.ga K "Timeline") "ticks_of_round")),
  He.eqO (PySem.W.findIn K (.ref (He.ga K "Timeline")) "begin_of") (some (some (.ref (He.ma K (He.ga K "Timeline") "begin_of")))),
  PySem.W.isFn K (.ref (He.ma K (He.ga K "Timeline") "begin_of"))]
def hb4 (K : PySem.W.Frag) : List Bool := [
  PySem.W.keepIn K (.ref (He.ma K (He.ga K "Timeline") "begin_of")),
  He.eqO (PySem.W.findIn K (.ref (He.ga K "Timeline")) "place") (some (some (.ref (He.ma K (He.ga K "Timeline") "place")))),
  PySem.W.isFn K (.ref (He.ma K (He.ga K "Timeline") "place")),
  PySem.W.keepIn K (.ref (He.ma K (He.ga K "Timeline") "place")),
  He.eqO (PySem.W.findIn K (.ref (He.ga K "Timeline")) "_number_at") (some (some (.ref (He.ma K (He.ga K "Timeline") "_number_at")))),
  PySem.W.isFn K (.ref (He.ma K (He.ga K "Timeline") "_number_at")),
  PySem.W.keepIn K (.ref (He.ma K (He.ga K "Timeline") "_number_at")),
  He.eqO (PySem.W.findIn K (.ref (He.ga K "Timeline")) "in_rounds_of") (some (some (.ref (He.ma K (He.ga K "Timeline") "in_rounds_of")))),
  PySem.W.isFn K (.ref (He.ma K (He.ga K "Timeline") "in_rounds_of")),
  PySem.W.keepIn K (.ref (He.ma K (He.ga K "Timeline") "in_rounds_of")),
  He.eqO (PySem.W.findIn K (.ref (He.ga K "HeatingSum")) "__init__") (some (some (.ref (He.ma K (He.ga K "HeatingSum") "__init__")))),
  PySem.W.isFn K (.ref (He.ma K (He.ga K "HeatingSum") "__init__")),
  PySem.W.keepIn K (.ref (He.ma K (He.ga K "HeatingSum") "__init__")),
  PySem.W.makesIn K (He.ga K "HeatingSum"),
  PySem.W.keepIn K (.ref (He.ga K "HeatingSum")),
  He.eqO (PySem.W.findIn K (.ref (He.ga K "HeatingSum")) "_is_on") (some (some (.ref (He.ma K (He.ga K "HeatingSum") "_is_on")))),
  PySem.W.isFn K (.ref (He.ma K (He.ga K "HeatingSum") "_is_on")),
  PySem.W.keepIn K (.ref (He.ma K (He.ga K "HeatingSum") "_is_on")),
  He.eqO (PySem.W.findIn K (.ref (He.ga K "HeatingSum")) "_sum_within") (some (some (.ref (He.ma K (He.ga K "HeatingSum") "_sum_within")))),
  PySem.W.isFn K (.ref (He.ma K (He.ga K "HeatingSum") "_sum_within")),
  PySem.W.keepIn K (.ref (He.ma K (He.ga K "HeatingSum") "_sum_within")),
  He.eqO (PySem.W.findIn K (.ref (He.ga K "HeatingSum")) "sum_before") (some (some (.ref (He.ma K (He.ga K "HeatingSum") "sum_before")))),
  PySem.W.isFn K (.ref (He.ma K (He.ga K "HeatingSum") "sum_before")),
  PySem.W.keepIn K (.ref (He.ma K (He.ga K "HeatingSum") "sum_before")),
  He.eqO (PySem.W.findIn K (.ref (He.ga K "HeatingSum")) "_sum_of_round") (some (some (.ref (He.ma K (He.ga K "HeatingSum") "_sum_of_round")))),
  PySem.W.isFn K (.ref (He.ma K (He.ga K "HeatingSum") "_sum_of_round")),
  PySem.W.keepIn K (.ref (He.ma K (He.ga K "HeatingSum") "_sum_of_round")),
  He.eqO (PySem.W.findIn K (.ref (He.ga K "HeatingSum")) "share") (some (some (.ref (He.ma K (He.ga K "HeatingSum") "share")))),
  PySem.W.isFn K (.ref (He.ma K (He.ga K "HeatingSum") "share")),
  PySem.W.keepIn K (.ref (He.ma K (He.ga K "HeatingSum") "share"))]
def hb5 (K : PySem.W.Frag) : List Bool := [
  He.eqO (PySem.W.findIn K (.ref (He.ga K "Drift")) "__init__") (some (some (.ref (He.ma K (He.ga K "Drift") "__init__")))),
  PySem.W.isFn K (.ref (He.ma K (He.ga K "Drift") "__init__")),
  PySem.W.keepIn K (.ref (He.ma K (He.ga K "Drift") "__init__")),
  PySem.W.makesIn K (He.ga K "Drift"),
  PySem.W.keepIn K (.ref (He.ga K "Drift")),
  He.eqO (PySem.W.findIn K (.ref (He.ga K "Drift")) "sum_to") (some (some (.ref (He.ma K (He.ga K "Drift") "sum_to")))),
  PySem.W.isFn K (.ref (He.ma K (He.ga K "Drift") "sum_to")),
  PySem.W.keepIn K (.ref (He.ma K (He.ga K "Drift") "sum_to")),
  He.eqO (PySem.W.nsIn K mainGlobals "both_drifts") (some (some (.ref (He.ga K "both_drifts")))),
  PySem.W.keepIn K (.ref (He.ga K "both_drifts")),
  He.eqO (PySem.W.findIn K (.ref (He.ga K "Stretch")) "__init__") (some (some (.ref (He.ma K (He.ga K "Stretch") "__init__")))),
  PySem.W.isFn K (.ref (He.ma K (He.ga K "Stretch") "__init__")),
  PySem.W.keepIn K (.ref (He.ma K (He.ga K "Stretch") "__init__")),
  PySem.W.makesIn K (He.ga K "Stretch"),
  PySem.W.keepIn K (.ref (He.ga K "Stretch")),
  He.eqO (PySem.W.findIn K (.ref (He.ga K "Stretch")) "degrees_at") (some (some (.ref (He.ma K (He.ga K "Stretch") "degrees_at")))),
  PySem.W.isFn K (.ref (He.ma K (He.ga K "Stretch") "degrees_at")),
  PySem.W.keepIn K (.ref (He.ma K (He.ga K "Stretch") "degrees_at")),
  He.eqO (PySem.W.findIn K (.ref (He.ga K "Stretch")) "begin_state") (some (some (.ref (He.ma K (He.ga K "Stretch") "begin_state")))),
  PySem.W.isFn K (.ref (He.ma K (He.ga K "Stretch") "begin_state")),
  PySem.W.keepIn K (.ref (He.ma K (He.ga K "Stretch") "begin_state")),
  He.eqO (PySem.W.findIn K (.ref (He.ga K "Stretch")) "switched") (some (some (.ref (He.ma K (He.ga K "Stretch") "switched")))),
  PySem.W.isFn K (.ref (He.ma K (He.ga K "Stretch") "switched")),
  PySem.W.keepIn K (.ref (He.ma K (He.ga K "Stretch") "switched")),
  He.eqO (PySem.W.findIn K (.ref (He.ga K "Stretch")) "level_ticks") (some (some (.ref (He.ma K (He.ga K "Stretch") "level_ticks")))),
  PySem.W.isFn K (.ref (He.ma K (He.ga K "Stretch") "level_ticks")),
  PySem.W.keepIn K (.ref (He.ma K (He.ga K "Stretch") "level_ticks")),
  He.eqO (PySem.W.findIn K (.ref (He.ga K "Stretch")) "first_beyond") (some (some (.ref (He.ma K (He.ga K "Stretch") "first_beyond")))),
  PySem.W.isFn K (.ref (He.ma K (He.ga K "Stretch") "first_beyond")),
  PySem.W.keepIn K (.ref (He.ma K (He.ga K "Stretch") "first_beyond"))]
def hb6 (K : PySem.W.Frag) : List Bool := [
  He.eqO (PySem.W.nsIn K mainGlobals "heater_state") (some (some (.ref (He.ga K "heater_state")))),
  PySem.W.keepIn K (.ref (He.ga K "heater_state")),
  He.eqO (PySem.W.findIn K (.ref (He.ga K "Course")) "__init__") (some (some (.ref (He.ma K (He.ga K "Course") "__init__")))),
  PySem.W.isFn K (.ref (He.ma K (He.ga K "Course") "__init__")),
  PySem.W.keepIn K (.ref (He.ma K (He.ga K "Course") "__init__")),
  PySem.W.makesIn K (He.ga K "Course"),
  PySem.W.keepIn K (.ref (He.ga K "Course")),
  He.eqO (PySem.W.findIn K (.ref (He.ga K "Course")) "_follow") (some (some (.ref (He.ma K (He.ga K "Course") "_follow")))),
  PySem.W.isFn K (.ref (He.ma K (He.ga K "Course") "_follow")),
  PySem.W.keepIn K (.ref (He.ma K (He.ga K "Course") "_follow")),
  He.eqO (PySem.W.findIn K (.ref (He.ga K "Course")) "_end_of") (some (some (.ref (He.ma K (He.ga K "Course") "_end_of")))),
  PySem.W.isFn K (.ref (He.ma K (He.ga K "Course") "_end_of")),
  PySem.W.keepIn K (.ref (He.ma K (He.ga K "Course") "_end_of")),
  He.eqO (PySem.W.findIn K (.ref (He.ga K "Course")) "on_in") (some (some (.ref (He.ma K (He.ga K "Course") "on_in")))),
  PySem.W.isFn K (.ref (He.ma K (He.ga K "Course") "on_in")),
  PySem.W.keepIn K (.ref (He.ma K (He.ga K "Course") "on_in")),
  He.eqO (PySem.W.findIn K (.ref (He.ga K "Course")) "heating_sum") (some (some (.ref (He.ma K (He.ga K "Course") "heating_sum")))),
  PySem.W.isFn K (.ref (He.ma K (He.ga K "Course") "heating_sum")),
  PySem.W.keepIn K (.ref (He.ma K (He.ga K "Course") "heating_sum")),
  He.eqO (PySem.W.findIn K (.ref (He.ga K "Course")) "heated_before") (some (some (.ref (He.ma K (He.ga K "Course") "heated_before")))),
  PySem.W.isFn K (.ref (He.ma K (He.ga K "Course") "heated_before")),
  PySem.W.keepIn K (.ref (He.ma K (He.ga K "Course") "heated_before")),
  He.eqO (PySem.W.findIn K (.ref (He.ga K "Course")) "recurrence") (some (some (.ref (He.ma K (He.ga K "Course") "recurrence")))),
  PySem.W.isFn K (.ref (He.ma K (He.ga K "Course") "recurrence")),
  PySem.W.keepIn K (.ref (He.ma K (He.ga K "Course") "recurrence")),
  He.eqO (PySem.W.nsIn K mainGlobals "check_gain") (some (some (.ref (He.ga K "check_gain")))),
  PySem.W.keepIn K (.ref (He.ga K "check_gain")),
  He.eqO (PySem.W.nsIn K mainGlobals "can_be_thresholds") (some (some (.ref (He.ga K "can_be_thresholds")))),
  PySem.W.keepIn K (.ref (He.ga K "can_be_thresholds")),
  He.eqO (PySem.W.findIn K (.ref (He.ga K "Heater")) "__init__") (some (some (.ref (He.ma K (He.ga K "Heater") "__init__"))))]
def hb7 (K : PySem.W.Frag) : List Bool := [
  PySem.W.isFn K (.ref (He.ma K (He.ga K "Heater") "__init__")),
  PySem.W.keepIn K (.ref (He.ma K (He.ga K "Heater") "__init__")),
  PySem.W.makesIn K (He.ga K "Heater"),
  PySem.W.keepIn K (.ref (He.ga K "Heater")),
  He.eqO (PySem.W.findIn K (.ref (He.ga K "Room")) "__init__") (some (some (.ref (He.ma K (He.ga K "Room") "__init__")))),
  PySem.W.isFn K (.ref (He.ma K (He.ga K "Room") "__init__")),
  PySem.W.keepIn K (.ref (He.ma K (He.ga K "Room") "__init__")),
  He.eqO (PySem.W.nsIn K (Hq.kwA K (He.ma K (He.ga K "Room") "__init__")) "on") (some (some (.bool false))),
  PySem.W.makesIn K (He.ga K "Room"),
  PySem.W.keepIn K (.ref (He.ga K "Room")),
  He.eqO (PySem.W.findIn K (.ref (He.ga K "Room")) "is_on") (some (some (.ref (He.ma K (He.ga K "Room") "is_on")))),
  PySem.W.isFn K (.ref (He.ma K (He.ga K "Room") "is_on")),
  PySem.W.keepIn K (.ref (He.ma K (He.ga K "Room") "is_on")),
  He.eqO (PySem.W.findIn K (.ref (He.ga K "Room")) "heating_ticks") (some (some (.ref (He.ma K (He.ga K "Room") "heating_ticks")))),
  PySem.W.isFn K (.ref (He.ma K (He.ga K "Room") "heating_ticks")),
  PySem.W.keepIn K (.ref (He.ma K (He.ga K "Room") "heating_ticks")),
  He.eqO (PySem.W.nsIn K mainGlobals "_law_start") (some (some (.ref (He.ga K "_law_start")))),
  PySem.W.keepIn K (.ref (He.ga K "_law_start")),
  He.eqO (PySem.W.nsIn K mainGlobals "_law_drawn") (some (some (.ref (He.ga K "_law_drawn")))),
  PySem.W.keepIn K (.ref (He.ga K "_law_drawn")),
  He.eqO (PySem.W.nsIn K mainGlobals "_law_changes") (some (some (.ref (He.ga K "_law_changes")))),
  PySem.W.keepIn K (.ref (He.ga K "_law_changes")),
  He.eqO (PySem.W.nsIn K mainGlobals "_law_weather") (some (some (.ref (He.ga K "_law_weather")))),
  PySem.W.keepIn K (.ref (He.ga K "_law_weather")),
  He.eqO (PySem.W.nsIn K mainGlobals "_law_single") (some (some (.ref (He.ga K "_law_single")))),
  PySem.W.keepIn K (.ref (He.ga K "_law_single")),
  He.eqO (PySem.W.nsIn K mainGlobals "_law_prices") (some (some (.ref (He.ga K "_law_prices")))),
  PySem.W.keepIn K (.ref (He.ga K "_law_prices")),
  He.eqO (PySem.W.nsIn K mainGlobals "_law_cents") (some (some (.ref (He.ga K "_law_cents")))),
  PySem.W.keepIn K (.ref (He.ga K "_law_cents"))]
def hb8 (K : PySem.W.Frag) : List Bool := [
  He.eqO (PySem.W.nsIn K mainGlobals "_law_is_lowest") (some (some (.ref (He.ga K "_law_is_lowest")))),
  PySem.W.keepIn K (.ref (He.ga K "_law_is_lowest")),
  He.eqO (PySem.W.nsIn K mainGlobals "law") (some (some (.ref (He.ga K "law")))),
  PySem.W.keepIn K (.ref (He.ga K "law")),
  He.eqO (PySem.W.findIn K (.ref (He.ga K "Weather")) "changes") (some (some (.ref (He.ma K (He.ga K "Weather") "changes")))),
  He.eqO (PySem.W.specialIn K (.ref (He.ma K (He.ga K "Weather") "changes")) "__get__") (some (some (.builtin "property.__get__"))),
  decide (PySem.W.takesIn K (.ref (He.ma K (He.ga K "Weather") "changes")) = some true),
  Hq.gtB K (He.ma K (He.ga K "Weather") "changes"),
  PySem.W.keepIn K (.ref (Hq.gtA K (He.ma K (He.ga K "Weather") "changes"))),
  He.eqO (PySem.W.findIn K (.ref (He.ga K "Prices")) "cents") (some (some (.ref (He.ma K (He.ga K "Prices") "cents")))),
  He.eqO (PySem.W.specialIn K (.ref (He.ma K (He.ga K "Prices") "cents")) "__get__") (some (some (.builtin "property.__get__"))),
  decide (PySem.W.takesIn K (.ref (He.ma K (He.ga K "Prices") "cents")) = some true),
  Hq.gtB K (He.ma K (He.ga K "Prices") "cents"),
  PySem.W.keepIn K (.ref (Hq.gtA K (He.ma K (He.ga K "Prices") "cents"))),
  He.eqO (PySem.W.findIn K (.ref (He.ga K "Heater")) "gain") (some (some (.ref (He.ma K (He.ga K "Heater") "gain")))),
  He.eqO (PySem.W.specialIn K (.ref (He.ma K (He.ga K "Heater") "gain")) "__get__") (some (some (.builtin "property.__get__"))),
  decide (PySem.W.takesIn K (.ref (He.ma K (He.ga K "Heater") "gain")) = some true),
  Hq.gtB K (He.ma K (He.ga K "Heater") "gain"),
  PySem.W.keepIn K (.ref (Hq.gtA K (He.ma K (He.ga K "Heater") "gain"))),
  He.eqO (PySem.W.findIn K (.ref (He.ga K "Heater")) "low") (some (some (.ref (He.ma K (He.ga K "Heater") "low")))),
  He.eqO (PySem.W.specialIn K (.ref (He.ma K (He.ga K "Heater") "low")) "__get__") (some (some (.builtin "property.__get__"))),
  decide (PySem.W.takesIn K (.ref (He.ma K (He.ga K "Heater") "low")) = some true),
  Hq.gtB K (He.ma K (He.ga K "Heater") "low"),
  PySem.W.keepIn K (.ref (Hq.gtA K (He.ma K (He.ga K "Heater") "low"))),
  He.eqO (PySem.W.findIn K (.ref (He.ga K "Heater")) "high") (some (some (.ref (He.ma K (He.ga K "Heater") "high")))),
  He.eqO (PySem.W.specialIn K (.ref (He.ma K (He.ga K "Heater") "high")) "__get__") (some (some (.builtin "property.__get__"))),
  decide (PySem.W.takesIn K (.ref (He.ma K (He.ga K "Heater") "high")) = some true),
  Hq.gtB K (He.ma K (He.ga K "Heater") "high"),
  PySem.W.keepIn K (.ref (Hq.gtA K (He.ma K (He.ga K "Heater") "high"))),
  He.eqO (PySem.W.findIn K (.ref (He.ga K "Room")) "repetition") (some (some (.ref (He.ma K (He.ga K "Room") "repetition"))))]
def hb9 (K : PySem.W.Frag) : List Bool := [
  He.eqO (PySem.W.specialIn K (.ref (He.ma K (He.ga K "Room") "repetition")) "__get__") (some (some (.builtin "property.__get__"))),
  decide (PySem.W.takesIn K (.ref (He.ma K (He.ga K "Room") "repetition")) = some true),
  Hq.gtB K (He.ma K (He.ga K "Room") "repetition"),
  PySem.W.keepIn K (.ref (Hq.gtA K (He.ma K (He.ga K "Room") "repetition"))),
  Hq.inB K "MOST_TICKS" 1000000000000000000,
  Hq.inB K "MOST_GAIN" 200,
  Hq.inB K "MOST_DEGREES" 1000000000000,
  Hq.inB K "MOST_BUDGET" 1000000000000000000000000000000,
  He.eqO (PySem.W.nsIn K mainGlobals "gcd") (some (some (.builtin "math.gcd"))),
  He.eqO (PySem.W.nsIn K mainGlobals "lcm") (some (some (.builtin "math.lcm"))),
  He.eqO (PySem.W.nsIn K mainGlobals "divmod") (some none),
  He.eqO (PySem.W.nsIn K mainGlobals "enumerate") (some none),
  He.eqO (PySem.W.nsIn K mainGlobals "int") (some none),
  He.eqO (PySem.W.nsIn K mainGlobals "len") (some none),
  He.eqO (PySem.W.nsIn K mainGlobals "min") (some none),
  He.eqO (PySem.W.nsIn K mainGlobals "range") (some none),
  He.eqO (PySem.W.nsIn K mainGlobals "sum") (some none),
  Hq.cvB K (He.ga K "Prices") "MAX_PRICE" 1000000,
  Hq.cvB K (He.ga K "Prices") "MAX_TICKS" 24,
  Hq.cvB K (He.ga K "Weather") "MAX_CHANGE" 100,
  Hq.cvB K (He.ga K "Weather") "MAX_TICKS" 24,
  (wmL K).all id,
  Hq.coB K (He.ga K "check_number") "check_number",
  Hq.coB K (He.ga K "first_invalid") "first_invalid",
  Hq.coB K (He.ga K "sum_of_first") "sum_of_first",
  Hq.coB K (He.ga K "added_rounds") "added_rounds",
  Hq.coB K (He.ma K (He.ga K "Weather") "__init__") "Weather.__init__",
  Hq.coB K (He.ma K (He.ga K "Weather") "__len__") "Weather.__len__",
  Hq.coB K (He.ma K (He.ga K "Weather") "__add__") "Weather.__add__",
  Hq.coB K (He.ma K (He.ga K "Weather") "__mul__") "Weather.__mul__"]
def hb10 (K : PySem.W.Frag) : List Bool := [
  Hq.coB K (He.ma K (He.ga K "Prices") "__init__") "Prices.__init__",
  Hq.coB K (He.ga K "heating_cost") "heating_cost",
  Hq.coB K (He.ga K "first_over") "first_over",
  Hq.coB K (He.ga K "cost_share") "cost_share",
  Hq.coB K (He.ga K "lowest_terms") "lowest_terms",
  Hq.coB K (He.ma K (He.ga K "Timeline") "__init__") "Timeline.__init__",
  Hq.coB K (He.ma K (He.ga K "Timeline") "ticks_of_round") "Timeline.ticks_of_round",
  Hq.coB K (He.ma K (He.ga K "Timeline") "begin_of") "Timeline.begin_of",
  Hq.coB K (He.ma K (He.ga K "Timeline") "place") "Timeline.place",
  Hq.coB K (He.ma K (He.ga K "Timeline") "_number_at") "Timeline._number_at",
  Hq.coB K (He.ma K (He.ga K "Timeline") "in_rounds_of") "Timeline.in_rounds_of",
  Hq.coB K (He.ma K (He.ga K "HeatingSum") "__init__") "HeatingSum.__init__",
  Hq.coB K (He.ma K (He.ga K "HeatingSum") "_is_on") "HeatingSum._is_on",
  Hq.coB K (He.ma K (He.ga K "HeatingSum") "_sum_within") "HeatingSum._sum_within",
  Hq.coB K (He.ma K (He.ga K "HeatingSum") "sum_before") "HeatingSum.sum_before",
  Hq.coB K (He.ma K (He.ga K "HeatingSum") "_sum_of_round") "HeatingSum._sum_of_round",
  Hq.coB K (He.ma K (He.ga K "HeatingSum") "share") "HeatingSum.share",
  Hq.coB K (He.ma K (He.ga K "Drift") "__init__") "Drift.__init__",
  Hq.coB K (He.ma K (He.ga K "Drift") "sum_to") "Drift.sum_to",
  Hq.coB K (He.ga K "both_drifts") "both_drifts",
  Hq.coB K (He.ma K (He.ga K "Stretch") "__init__") "Stretch.__init__",
  Hq.coB K (He.ma K (He.ga K "Stretch") "degrees_at") "Stretch.degrees_at",
  Hq.coB K (He.ma K (He.ga K "Stretch") "begin_state") "Stretch.begin_state",
  Hq.coB K (He.ma K (He.ga K "Stretch") "switched") "Stretch.switched",
  Hq.coB K (He.ma K (He.ga K "Stretch") "level_ticks") "Stretch.level_ticks",
  Hq.coB K (He.ma K (He.ga K "Stretch") "first_beyond") "Stretch.first_beyond",
  Hq.coB K (He.ga K "heater_state") "heater_state",
  Hq.coB K (He.ma K (He.ga K "Course") "__init__") "Course.__init__",
  Hq.coB K (He.ma K (He.ga K "Course") "_follow") "Course._follow",
  Hq.coB K (He.ma K (He.ga K "Course") "_end_of") "Course._end_of"]
def hb11 (K : PySem.W.Frag) : List Bool := [
  Hq.coB K (He.ma K (He.ga K "Course") "on_in") "Course.on_in",
  Hq.coB K (He.ma K (He.ga K "Course") "heating_sum") "Course.heating_sum",
  Hq.coB K (He.ma K (He.ga K "Course") "heated_before") "Course.heated_before",
  Hq.coB K (He.ma K (He.ga K "Course") "recurrence") "Course.recurrence",
  Hq.coB K (He.ga K "check_gain") "check_gain",
  Hq.coB K (He.ga K "can_be_thresholds") "can_be_thresholds",
  Hq.coB K (He.ma K (He.ga K "Heater") "__init__") "Heater.__init__",
  Hq.coB K (He.ma K (He.ga K "Room") "__init__") "Room.__init__",
  Hq.kwB K (He.ma K (He.ga K "Room") "__init__"),
  Hq.coB K (He.ma K (He.ga K "Room") "is_on") "Room.is_on",
  Hq.coB K (He.ma K (He.ga K "Room") "heating_ticks") "Room.heating_ticks",
  Hq.coB K (He.ga K "_law_start") "_law_start",
  Hq.coB K (He.ga K "_law_drawn") "_law_drawn",
  Hq.coB K (He.ga K "_law_changes") "_law_changes",
  Hq.coB K (He.ga K "_law_weather") "_law_weather",
  Hq.coB K (He.ga K "_law_single") "_law_single",
  Hq.coB K (He.ga K "_law_prices") "_law_prices",
  Hq.coB K (He.ga K "_law_cents") "_law_cents",
  Hq.coB K (He.ga K "_law_is_lowest") "_law_is_lowest",
  Hq.coB K (He.ga K "law") "law",
  Hq.coB K (Hq.gtA K (He.ma K (He.ga K "Weather") "changes")) "Weather.changes",
  Hq.coB K (Hq.gtA K (He.ma K (He.ga K "Prices") "cents")) "Prices.cents",
  Hq.coB K (Hq.gtA K (He.ma K (He.ga K "Heater") "gain")) "Heater.gain",
  Hq.coB K (Hq.gtA K (He.ma K (He.ga K "Heater") "low")) "Heater.low",
  Hq.coB K (Hq.gtA K (He.ma K (He.ga K "Heater") "high")) "Heater.high",
  Hq.coB K (Hq.gtA K (He.ma K (He.ga K "Room") "repetition")) "Room.repetition"]
def hf0 : List ((PySem.W.Frag → Addr) × Hq.Mv) := [
  (fun K => (He.ga K "check_number"), Hq.mv "check_number" "check_number" s_check_number),
  (fun K => (He.ga K "first_invalid"), Hq.mv "first_invalid" "first_invalid" s_first_invalid),
  (fun K => (He.ga K "sum_of_first"), Hq.mv "sum_of_first" "sum_of_first" s_sum_of_first),
  (fun K => (He.ga K "added_rounds"), Hq.mv "added_rounds" "added_rounds" s_added_rounds),
  (fun K => (He.ma K (He.ga K "Weather") "__init__"), Hq.mv "__init__" "Weather.__init__" s_Weather_init),
  (fun K => (He.ma K (He.ga K "Weather") "__len__"), Hq.mv "__len__" "Weather.__len__" s_Weather_len),
  (fun K => (He.ma K (He.ga K "Weather") "__add__"), Hq.mv "__add__" "Weather.__add__" s_Weather_add),
  (fun K => (He.ma K (He.ga K "Weather") "__mul__"), Hq.mv "__mul__" "Weather.__mul__" s_Weather_mul),
  (fun K => (He.ma K (He.ga K "Prices") "__init__"), Hq.mv "__init__" "Prices.__init__" s_Prices_init),
  (fun K => (He.ga K "heating_cost"), Hq.mv "heating_cost" "heating_cost" s_heating_cost),
  (fun K => (He.ga K "first_over"), Hq.mv "first_over" "first_over" s_first_over),
  (fun K => (He.ga K "cost_share"), Hq.mv "cost_share" "cost_share" s_cost_share),
  (fun K => (He.ga K "lowest_terms"), Hq.mv "lowest_terms" "lowest_terms" s_lowest_terms),
  (fun K => (He.ma K (He.ga K "Timeline") "__init__"), Hq.mv "__init__" "Timeline.__init__" s_Timeline_init),
  (fun K => (He.ma K (He.ga K "Timeline") "ticks_of_round"), Hq.mv "ticks_of_round" "Timeline.ticks_of_round" s_Timeline_ticks_of_round),
  (fun K => (He.ma K (He.ga K "Timeline") "begin_of"), Hq.mv "begin_of" "Timeline.begin_of" s_Timeline_begin_of),
  (fun K => (He.ma K (He.ga K "Timeline") "place"), Hq.mv "place" "Timeline.place" s_Timeline_place),
  (fun K => (He.ma K (He.ga K "Timeline") "_number_at"), Hq.mv "_number_at" "Timeline._number_at" s_Timeline_number_at),
  (fun K => (He.ma K (He.ga K "Timeline") "in_rounds_of"), Hq.mv "in_rounds_of" "Timeline.in_rounds_of" s_Timeline_in_rounds_of),
  (fun K => (He.ma K (He.ga K "HeatingSum") "__init__"), Hq.mv "__init__" "HeatingSum.__init__" s_HeatingSum_init),
  (fun K => (He.ma K (He.ga K "HeatingSum") "_is_on"), Hq.mv "_is_on" "HeatingSum._is_on" s_HeatingSum_is_on),
  (fun K => (He.ma K (He.ga K "HeatingSum") "_sum_within"), Hq.mv "_sum_within" "HeatingSum._sum_within" s_HeatingSum_sum_within),
  (fun K => (He.ma K (He.ga K "HeatingSum") "sum_before"), Hq.mv "sum_before" "HeatingSum.sum_before" s_HeatingSum_sum_before),
  (fun K => (He.ma K (He.ga K "HeatingSum") "_sum_of_round"), Hq.mv "_sum_of_round" "HeatingSum._sum_of_round" s_HeatingSum_sum_of_round),
  (fun K => (He.ma K (He.ga K "HeatingSum") "share"), Hq.mv "share" "HeatingSum.share" s_HeatingSum_share),
  (fun K => (He.ma K (He.ga K "Drift") "__init__"), Hq.mv "__init__" "Drift.__init__" s_Drift_init),
  (fun K => (He.ma K (He.ga K "Drift") "sum_to"), Hq.mv "sum_to" "Drift.sum_to" s_Drift_sum_to),
  (fun K => (He.ga K "both_drifts"), Hq.mv "both_drifts" "both_drifts" s_both_drifts),
  (fun K => (He.ma K (He.ga K "Stretch") "__init__"), Hq.mv "__init__" "Stretch.__init__" s_Stretch_init),
  (fun K => (He.ma K (He.ga K "Stretch") "degrees_at"), Hq.mv "degrees_at" "Stretch.degrees_at" s_Stretch_degrees_at)]
def hf1 : List ((PySem.W.Frag → Addr) × Hq.Mv) := [
  (fun K => (He.ma K (He.ga K "Stretch") "begin_state"), Hq.mv "begin_state" "Stretch.begin_state" s_Stretch_begin_state),
  (fun K => (He.ma K (He.ga K "Stretch") "switched"), Hq.mv "switched" "Stretch.switched" s_Stretch_switched),
  (fun K => (He.ma K (He.ga K "Stretch") "level_ticks"), Hq.mv "level_ticks" "Stretch.level_ticks" s_Stretch_level_ticks),
  (fun K => (He.ma K (He.ga K "Stretch") "first_beyond"), Hq.mv "first_beyond" "Stretch.first_beyond" s_Stretch_first_beyond),
  (fun K => (He.ga K "heater_state"), Hq.mv "heater_state" "heater_state" s_heater_state),
  (fun K => (He.ma K (He.ga K "Course") "__init__"), Hq.mv "__init__" "Course.__init__" s_Course_init),
  (fun K => (He.ma K (He.ga K "Course") "_follow"), Hq.mv "_follow" "Course._follow" s_Course_follow),
  (fun K => (He.ma K (He.ga K "Course") "_end_of"), Hq.mv "_end_of" "Course._end_of" s_Course_end_of),
  (fun K => (He.ma K (He.ga K "Course") "on_in"), Hq.mv "on_in" "Course.on_in" s_Course_on_in),
  (fun K => (He.ma K (He.ga K "Course") "heating_sum"), Hq.mv "heating_sum" "Course.heating_sum" s_Course_heating_sum),
  (fun K => (He.ma K (He.ga K "Course") "heated_before"), Hq.mv "heated_before" "Course.heated_before" s_Course_heated_before),
  (fun K => (He.ma K (He.ga K "Course") "recurrence"), Hq.mv "recurrence" "Course.recurrence" s_Course_recurrence),
  (fun K => (He.ga K "check_gain"), Hq.mv "check_gain" "check_gain" s_check_gain),
  (fun K => (He.ga K "can_be_thresholds"), Hq.mv "can_be_thresholds" "can_be_thresholds" s_can_be_thresholds),
  (fun K => (He.ma K (He.ga K "Heater") "__init__"), Hq.mv "__init__" "Heater.__init__" s_Heater_init),
  (fun K => (He.ma K (He.ga K "Room") "__init__"), Hq.mv "__init__" "Room.__init__" s_Room_init),
  (fun K => (He.ma K (He.ga K "Room") "is_on"), Hq.mv "is_on" "Room.is_on" s_Room_is_on),
  (fun K => (He.ma K (He.ga K "Room") "heating_ticks"), Hq.mv "heating_ticks" "Room.heating_ticks" s_Room_heating_ticks),
  (fun K => (He.ga K "_law_start"), Hq.mv "_law_start" "_law_start" s__law_start),
  (fun K => (He.ga K "_law_drawn"), Hq.mv "_law_drawn" "_law_drawn" s__law_drawn),
  (fun K => (He.ga K "_law_changes"), Hq.mv "_law_changes" "_law_changes" s__law_changes),
  (fun K => (He.ga K "_law_weather"), Hq.mv "_law_weather" "_law_weather" s__law_weather),
  (fun K => (He.ga K "_law_single"), Hq.mv "_law_single" "_law_single" s__law_single),
  (fun K => (He.ga K "_law_prices"), Hq.mv "_law_prices" "_law_prices" s__law_prices),
  (fun K => (He.ga K "_law_cents"), Hq.mv "_law_cents" "_law_cents" s__law_cents),
  (fun K => (He.ga K "_law_is_lowest"), Hq.mv "_law_is_lowest" "_law_is_lowest" s__law_is_lowest),
  (fun K => (He.ga K "law"), Hq.mv "law" "law" s_law),
  (fun K => (Hq.gtA K (He.ma K (He.ga K "Weather") "changes")), Hq.mv "changes" "Weather.changes" s_Weather_changes),
  (fun K => (Hq.gtA K (He.ma K (He.ga K "Prices") "cents")), Hq.mv "cents" "Prices.cents" s_Prices_cents),
  (fun K => (Hq.gtA K (He.ma K (He.ga K "Heater") "gain")), Hq.mv "gain" "Heater.gain" s_Heater_gain)]
def hf2 : List ((PySem.W.Frag → Addr) × Hq.Mv) := [
  (fun K => (Hq.gtA K (He.ma K (He.ga K "Heater") "low")), Hq.mv "low" "Heater.low" s_Heater_low),
  (fun K => (Hq.gtA K (He.ma K (He.ga K "Heater") "high")), Hq.mv "high" "Heater.high" s_Heater_high),
  (fun K => (Hq.gtA K (He.ma K (He.ga K "Room") "repetition")), Hq.mv "repetition" "Room.repetition" s_Room_repetition)]
def hS0 : Hq2.Spc := ⟨fun K => hb0 K ++ (hb1 K ++ (hb2 K ++ (hb3 K ++ (hb4 K ++ (hb5 K))))), hf0, [], fun K => []⟩
def hS1 : Hq2.Spc := ⟨fun K => hb6 K ++ (hb7 K ++ (hb8 K ++ (hb9 K ++ (hb10 K ++ (hb11 K))))), hf1 ++ (hf2), [], fun K => []⟩
abbrev hS : Hq2.Spc := (Hq3.app hS0 hS1)
def hn0 : List PySem.Str := ["_wall", "WarmthError", "InvalidWeather", "InvalidHeater", "InvalidNumber", "InvalidPrices", "check_number", "first_invalid", "sum_of_first", "same_rounds", "added_rounds", "MOST_TICKS", "Weather", "MOST_BUDGET", "Prices", "heating_cost", "first_over", "cost_share", "lowest_terms", "Timeline", "HeatingSum", "Drift", "both_drifts", "Stretch", "more_extreme", "heater_state", "Course", "MOST_GAIN", "MOST_DEGREES", "check_gain"]
def hn1 : List PySem.Str := ["can_be_thresholds", "Heater", "Room", "_law_start", "_law_drawn", "_law_same", "_law_changes", "_law_weather", "_law_single", "_law_prices", "_law_cents", "_law_is_lowest"]
def hn : List PySem.Str := hn0 ++ (hn1)
abbrev hV : Program := PySem.W.view hR.prog [0, 51]
abbrev hk : PySem.W.Hook := Hq2.hook 5 hS
def hob (s : PySem.W.SharedT) : Hq2.Av × Bool := Hq2.obsG 5 hS (HandSHeadRun.getT s)
theorem hob_eq (s : PySem.W.SharedT) : hob s = hk.obs s.abs := Hq2.obsG_eq (HandSHeadRun.getT_eq s)
end W6

namespace W6
open PySem PySem.Spec PyProof.Rows L2 Ru StX
set_option maxHeartbeats 0 in
theorem hrunA (w : World) : (Hq3.whole hR 40000 w).map (fun x => HandSHeadRun.looksF hR.prog x.1.heap x.2.abs) = some true := by kernel_rfl
end W6

namespace W6
open PySem PySem.Spec PyProof.Rows L2 Ru StX
set_option maxHeartbeats 0 in
theorem hrunB (w : World) : (Hq3.whole hR 40000 w).map (fun x => HandSHeadRun.seenQ hV hn (importedModules hR.prog.main.body) (fun s => PySem.W.xlAt hV [] s && PySem.W.recOk hR.toRowW.records s) x.2.abs) = some (PySem.W.openGood hV hn) := by kernel_rfl
end W6

namespace W6
open PySem PySem.Spec PyProof.Rows L2 Ru StX
set_option maxHeartbeats 0 in
theorem hrun0 (w : World) : (Hq3.whole hR 40000 w).map (fun x => Hq2.obsG 5 hS0 (HandSHeadRun.getT x.2)) = some (Hq2.wanted hS0, true) := by kernel_rfl
end W6

namespace W6
open PySem PySem.Spec PyProof.Rows L2 Ru StX
set_option maxHeartbeats 0 in
theorem hrun1 (w : World) : (Hq3.whole hR 40000 w).map (fun x => Hq2.obsG 5 hS1 (HandSHeadRun.getT x.2)) = some (Hq2.wanted hS1, true) := by kernel_rfl
end W6

namespace W6
open PySem PySem.Spec PyProof.Rows L2 Ru StX
theorem hrun (w : World) : HandSHeadRun.RunEqI hR hV hk hob 40000 hn w := Hq3.run_of (fun _ => rfl) (hrunA w) (hrunB w) (Hq3.run_app (hrun0 w) (hrun1 w))
end W6

/-! what stands in the heap; the promises of the law's helpers -/
namespace W6
open PySem PySem.Spec PyProof.Rows L2
/-- all but two objects as they were -/
def Keep (x y : Addr) (H H' : Hp) : Prop := ∀ b o, b ≠ x → b ≠ y → H b = some o → H' b = some o
theorem Keep.refl (x y : Addr) (H : Hp) : Keep x y H H := fun _ _ _ _ h => h
theorem Keep.trans {x y : Addr} {H H1 H2 : Hp} (a : Keep x y H H1) (b : Keep x y H1 H2) : Keep x y H H2 := fun c o h1 h2 h => b c o h1 h2 (a c o h1 h2 h)
theorem Keep.of {x y : Addr} {H H1 : Hp} (a : Same H H1) : Keep x y H H1 := fun c o _ _ h => a c o h
/-- the draws: the mixed number, the cells, the index -/
def LH (H : Hp) (x y : Addr) : Prop := ∃ (m i : Int) (cs : List Int), H x = some (.lst [.int m, .ref y, .int i]) ∧ H y = some (.lst (cs.map V.int)) ∧ 0 ≤ m ∧ m < 2147483647 ∧ 0 ≤ i ∧ cs.length ≤ 63
theorem LH.ne {H : Hp} {x y : Addr} (h : LH H x y) : x ≠ y := by
  obtain ⟨m, i, cs, h1, h2, _⟩ := h
  refine ne_of h1 h2 fun e => ?_
  injection e with e
  cases cs with
  | nil => cases e
  | cons a r =>
    cases r with
    | nil => cases e
    | cons b r => simp at e
theorem LH.same {H H' : Hp} {x y : Addr} (h : LH H x y) (s : Same H H') : LH H' x y := by
  obtain ⟨m, i, cs, h1, h2, r⟩ := h
  exact ⟨m, i, cs, s _ _ h1, s _ _ h2, r⟩
/-- a free place is none of the two -/
theorem LH.off {H : Hp} {x y p : Addr} (h : LH H x y) (hp : H p = none) : p ≠ x ∧ p ≠ y := by
  obtain ⟨m, i, cs, h1, h2, r⟩ := h
  exact ⟨(ne_of_none h1 hp).symm, (ne_of_none h2 hp).symm⟩
theorem Keep.free {x y p : Addr} {H H' : Hp} (k : Keep x y H H') (h' : LH H' x y) (hp : H' p = none) : H p = none := by
  have o := h'.off hp
  cases e : H p with
  | none => rfl
  | some u => rw [k p u o.1 o.2 e] at hp; cases hp
/-- a new object -/
theorem same_upd {H : Hp} {p : Addr} {o : HO} (h : H p = none) : Same H (upd H p o) := fun b u e => by rw [upd_ne (ne_of_none e h)]; exact e
def spNext : Sp := fun vs H Q _ => ∃ (x y : Addr) (lim : Int), vs = [.ref x, .int lim] ∧ LH H x y ∧ 0 < lim ∧ lim < 18446744073709551616 ∧ ∀ r H', 0 ≤ r → r < lim → LH H' x y → Keep x y H H' → Q (.int r) H'
def spMix (K : PySem.W.Frag) : Sp := fun vs H Q _ => ∃ (c : Addr) (ns : List Int) (z : Int), vs = [.ref c, .int z] ∧ SqL K H c (ns.map V.int) ∧ 0 ≤ z ∧ z < 2147483647 ∧ ns.length ≤ 63 ∧ ∀ x y H', LH H' x y → Same H H' → H x = none → H y = none → Q (.ref x) H'
/-- some changes of a weather -/
def CH (cs : List Int) : Prop := 1 ≤ cs.length ∧ cs.length ≤ 24 ∧ ∀ c ∈ cs, -100 ≤ c ∧ c ≤ 100
def spChanges : Sp := fun vs H Q _ => ∃ (x y : Addr) (most : Int), vs = [.ref x, .int most] ∧ LH H x y ∧ 1 ≤ most ∧ most ≤ 24 ∧ ∀ p cs H', CH cs → (cs.length : Int) ≤ most → H' p = some (.tup (cs.map V.int)) → H p = none → LH H' x y → Keep x y H H' → Q (.ref p) H'
end W6
namespace W6
open PySem PySem.Spec PyProof.Rows L2
def spSetting : Sp := fun vs H Q _ => ∃ (x y : Addr), vs = [.ref x] ∧ LH H x y ∧ ∀ p (g lo hi st : Int) (on : Bool) H', 1 ≤ g → g ≤ 200 → lo ≤ hi → -100000000000 ≤ lo → hi ≤ 200000000000 → -1000000000000 ≤ st → st ≤ 1000000000000 → hi - lo ≤ 100000000000 → lo - 200000000000 ≤ st → st ≤ lo + 300000000000 →
  H' p = some (.tup [.int g, .int lo, .int hi, .int st, .bl on]) → H p = none → LH H' x y → Keep x y H H' → Q (.ref p) H'
def spDivisor : Sp := fun vs H Q _ => ∃ (x y : Nat), vs = [.int x, .int y] ∧ Q (.int ((Nat.gcd x y : Nat) : Int)) H
end W6
namespace W6
theorem ifF {c : Bool} {A B : Prop} (h : c = false) (b : B) : if c = true then A else B := by rw [h]; exact b
theorem ifT {c : Bool} {A B : Prop} (h : c = true) (x : A) : if c = true then A else B := by rw [h]; exact x
theorem dF {p : Prop} [Decidable p] (h : ¬ p) : decide p = false := decide_eq_false h
theorem dT {p : Prop} [Decidable p] (h : p) : decide p = true := decide_eq_true h
theorem nF {p : Prop} [Decidable p] (h : p) : (!decide p) = false := by rw [decide_eq_true h]; rfl
theorem nT {p : Prop} [Decidable p] (h : ¬ p) : (!decide p) = true := by rw [decide_eq_false h]; rfl
end W6

/-! the objects of the program in the heap, and the promises of its defs -/
namespace W6
open PySem PySem.Spec PyProof.Rows L2
/-- all but one as it was -/
def Fr1 (x : Addr) (H H' : Hp) : Prop := ∀ b o, b ≠ x → H b = some o → H' b = some o
theorem Fr1.of {x : Addr} {H H' : Hp} (h : Same H H') : Fr1 x H H' := fun b o _ e => h b o e
theorem Fr1.trans {x : Addr} {H H1 H2 : Hp} (a : Fr1 x H H1) (b : Fr1 x H1 H2) : Fr1 x H H2 := fun c o h e => b c o h (a c o h e)
theorem Fr1.upd {x : Addr} {H : Hp} {o : HO} : Fr1 x H (L2.upd H x o) := fun b u h e => by rw [upd_ne h]; exact e
/-- behind an __init__ all that stood before the instance was made stands -/
theorem Fr1.made {x dx C : Addr} {H H' : Hp} (nx : H x = none) (nd : H dx = none) (h : Fr1 x (L2.upd (L2.upd H dx (.own x)) x (.ins C dx [])) H') : Same H H' := fun b o e =>
  h b o (ne_of_none e nx) (by rw [upd_ne (ne_of_none e nx), upd_ne (ne_of_none e nd)]; exact e)
theorem same_made {x dx C : Addr} {H : Hp} (nx : H x = none) (nd : H dx = none) : Same H (L2.upd (L2.upd H dx (.own x)) x (.ins C dx [])) := fun b o e => by
  rw [upd_ne (ne_of_none e nx), upd_ne (ne_of_none e nd)]; exact e
/-- without some objects -/
def del (H : Hp) (S : List Addr) : Hp := fun b => if b ∈ S then none else H b
theorem del_in {H : Hp} {S : List Addr} {b : Addr} (h : b ∉ S) : del H S b = H b := if_neg h
theorem del_same {H : Hp} {S : List Addr} : Same (del H S) H := fun b o e => by
  by_cases h : b ∈ S
  · unfold del at e; rw [if_pos h] at e; cases e
  · rw [del_in h] at e; exact e
theorem del_some {H : Hp} {S : List Addr} {b : Addr} {o : HO} (e : del H S b = some o) : b ∉ S ∧ H b = some o := by
  by_cases h : b ∈ S
  · unfold del at e; rw [if_pos h] at e; cases e
  · rw [del_in h] at e; exact ⟨h, e⟩
theorem Fr1.del {x : Addr} {H H' : Hp} {S : List Addr} (h : Fr1 x H H') : Fr1 x (del H S) (del H' S) := fun b o n e => by
  obtain ⟨q, e⟩ := del_some e
  rw [del_in q]; exact h b o n e
theorem Same.del {H H' : Hp} {S : List Addr} (h : Same H H') : Same (del H S) (del H' S) := fun b o e => by
  obtain ⟨q, e⟩ := del_some e
  rw [del_in q]; exact h b o e
section
variable (a : Ad)
def WAt (H : Hp) (z : Addr) (cs : List Int) : Prop := ∃ dx t, H z = some (.ins a.c_Weather dx [("_changes", .ref t)]) ∧ H t = some (.tup (cs.map V.int))
def HAt (H : Hp) (z : Addr) (g lo hi : Int) : Prop := ∃ dx, H z = some (.ins a.c_Heater dx [("_gain", .int g), ("_low", .int lo), ("_high", .int hi)])
def sumsV (cs : List Int) (gg : Int) : List V := (List.range cs.length).map fun r => V.int (Th.pre cs gg r)
def DAt (H : Hp) (z : Addr) (cs : List Int) (gg : Int) : Prop := (CH cs ∧ 0 ≤ gg ∧ gg ≤ 200) ∧ ∃ dx l, H z = some (.ins a.c_Drift dx [("round_ticks", .int cs.length), ("round_sum", .int (Th.rsum cs gg)), ("_sums", .ref l)]) ∧ H l = some (.lst (sumsV cs gg))
def DDs (H : Hp) (t : Addr) (cs : List Int) (g : Int) : Prop := ∃ d0 d1, H t = some (.tup [.ref d0, .ref d1]) ∧ DAt a H d0 cs 0 ∧ DAt a H d1 cs g
def SAt (H : Hp) (z : Addr) (cs : List Int) (g : Int) (on : Bool) (b : Nat) (base : Int) : Prop := ∃ dx td d, H z = some (.ins a.c_Stretch dx [("on", .bl on), ("begin", .int b), ("_drifts", .ref td), ("_drift", .ref d), ("_base", .int base)]) ∧ DDs a H td cs g ∧ DAt a H d cs (Th.gon g on)
def bkV : Option Nat → V
  | none => .non
  | some k => .int k
def TAt (H : Hp) (z : Addr) (bs : List Nat) (back : Option Nat) : Prop := ∃ dx lb, H z = some (.ins a.c_Timeline dx [("back", bkV back), ("last", .int ((bs.length : Int) - 1)), ("_begins", .ref lb)]) ∧ H lb = some (.lst (bs.map fun (b : Nat) => V.int (b : Int)))
/-- the heating of ticks that count 1 each -/
def YAt (H : Hp) (z : Addr) (p : Th.Par) (bs : List Nat) (back : Option Nat) : Prop := ∃ dx am tl ls, H z = some (.ins a.c_HeatingSum dx [("_on", .bl (Th.onn p 0)), ("_amounts", .ref am), ("_timeline", .ref tl), ("_sums", .ref ls)]) ∧ H am = some (.tup [.int 1]) ∧ TAt a H tl bs back ∧ H ls = some (.lst (bs.map fun b => V.int (Th.Hc p b)))
def CAt (H : Hp) (z : Addr) (p : Th.Par) (bs : List Nat) (back : Option Nat) : Prop := ∃ (dx ls tl hs : Addr) (qs : List Addr), H z = some (.ins a.c_Course dx [("_low", .int p.lo), ("_high", .int p.hi), ("_stretches", .ref ls), ("_timeline", .ref tl), ("_heating", .ref hs)]) ∧
  H ls = some (.lst (qs.map V.ref)) ∧ qs.length = bs.length ∧ (∀ (i : Nat) (q : Addr) (b : Nat), qs[i]? = some q → bs[i]? = some b → SAt a H q p.ch p.g (Th.onn p b) b (Th.baB p b)) ∧ TAt a H tl bs back ∧ YAt a H hs p bs back
end
section
variable {a : Ad} {H H' : Hp} {z : Addr}
theorem WAt.same {cs : List Int} (h : WAt a H z cs) (s : Same H H') : WAt a H' z cs := let ⟨dx, t, h1, h2⟩ := h; ⟨dx, t, s _ _ h1, s _ _ h2⟩
theorem HAt.same {g lo hi : Int} (h : HAt a H z g lo hi) (s : Same H H') : HAt a H' z g lo hi := let ⟨dx, h1⟩ := h; ⟨dx, s _ _ h1⟩
theorem DAt.same {cs : List Int} {g : Int} (h : DAt a H z cs g) (s : Same H H') : DAt a H' z cs g := let ⟨b, dx, t, h1, h2⟩ := h; ⟨b, dx, t, s _ _ h1, s _ _ h2⟩
theorem DDs.same {cs : List Int} {g : Int} (h : DDs a H z cs g) (s : Same H H') : DDs a H' z cs g := let ⟨d0, d1, h1, h2, h3⟩ := h; ⟨d0, d1, s _ _ h1, h2.same s, h3.same s⟩
theorem SAt.same {cs : List Int} {g base : Int} {on : Bool} {b : Nat} (h : SAt a H z cs g on b base) (s : Same H H') : SAt a H' z cs g on b base := let ⟨dx, td, d, h1, h2, h3⟩ := h; ⟨dx, td, d, s _ _ h1, h2.same s, h3.same s⟩
theorem TAt.same {bs : List Nat} {back : Option Nat} (h : TAt a H z bs back) (s : Same H H') : TAt a H' z bs back := let ⟨dx, lb, h1, h2⟩ := h; ⟨dx, lb, s _ _ h1, s _ _ h2⟩
theorem YAt.same {p : Th.Par} {bs : List Nat} {back : Option Nat} (h : YAt a H z p bs back) (s : Same H H') : YAt a H' z p bs back := let ⟨dx, am, tl, ls, h1, h2, h3, h4⟩ := h; ⟨dx, am, tl, ls, s _ _ h1, s _ _ h2, h3.same s, s _ _ h4⟩
theorem CAt.same {p : Th.Par} {bs : List Nat} {back : Option Nat} (h : CAt a H z p bs back) (s : Same H H') : CAt a H' z p bs back :=
  let ⟨dx, ls, tl, hs, qs, h1, h2, h3, h4, h5, h6⟩ := h; ⟨dx, ls, tl, hs, qs, s _ _ h1, s _ _ h2, h3, fun i q b e1 e2 => (h4 i q b e1 e2).same s, h5.same s, h6.same s⟩
end
/-! ### promises -/
def spGain : Sp := fun vs H Q _ => ∃ g : Int, vs = [.int g] ∧ 1 ≤ g ∧ g ≤ 200 ∧ Q .non H
def spNum : Sp := fun vs H Q _ => ∃ n l u : Int, vs = [.int n, .int l, .int u] ∧ l ≤ n ∧ n ≤ u ∧ Q .non H
section
variable (a : Ad)
/-- the first value that is out of range or too many; none without one -/
def spFi : Sp := fun vs H Q _ => ∃ (t : Addr) (cs : List Int) (lo hi most : Int), vs = [.ref t, .int lo, .int hi, .int most] ∧ H t = some (.tup (cs.map V.int)) ∧
  (∀ H', Same H H' → cs ≠ [] → (∀ (i : Nat) (c : Int), cs[i]? = some c → (i : Int) < most ∧ lo ≤ c ∧ c ≤ hi) → Q .non H') ∧ (∀ H' (i : Nat) (c : Int), Same H H' → cs[i]? = some c → ¬ ((i : Int) < most ∧ lo ≤ c ∧ c ≤ hi) → (∀ (j : Nat) (d : Int), j < i → cs[j]? = some d → (j : Int) < most ∧ lo ≤ d ∧ d ≤ hi) → Q (.int i) H') ∧ (∀ H', Same H H' → cs = [] → Q (.int 0) H')
def spCb : Sp := fun vs H Q _ => ∃ lo hi : Int, vs = [.int lo, .int hi] ∧ Q (.bl (decide (-1000000000000 ≤ lo ∧ lo ≤ hi ∧ hi ≤ 1000000000000))) H
/-- Weather's __init__ with the tuple of its changes -/
def spWi : Sp := fun vs H Q _ => ∃ (x dx p : Addr) (cs : List Int), vs = [.ref x, .ref p] ∧ H x = some (.ins a.c_Weather dx []) ∧ H p = some (.tup (cs.map V.int)) ∧ CH cs ∧ ∀ H', Fr1 x H H' → WAt a H' x cs → Q .non H'
def spWs : Sp := fun vs H Q E => ∃ ws rest, vs = ws ++ rest ∧ ws.length = ["self"].length ∧ rest.length ≤ sizeLine ∧ ∀ p, H p = Option.none → spWi a (ws ++ [V.ref p]) (upd H p (.tup rest)) Q E
def spWeather : Sp := fun vs H Q _ => ∃ (t : Addr) (cs : List Int), vs = [.ref t] ∧ H t = some (.tup (cs.map V.int)) ∧ CH cs ∧ cs.length ≤ 6 ∧ ∀ z H', Same H H' → WAt a H' z cs → Q (.ref z) H'
def spHi : Sp := fun vs H Q _ => ∃ (x dx : Addr) (g lo hi : Int), vs = [.ref x, .int g, .int lo, .int hi] ∧ H x = some (.ins a.c_Heater dx []) ∧ 1 ≤ g ∧ g ≤ 200 ∧ lo ≤ hi ∧ -1000000000000 ≤ lo ∧ hi ≤ 1000000000000 ∧ ∀ H', Fr1 x H H' → HAt a H' x g lo hi → Q .non H'
def spDi : Sp := fun vs H Q _ => ∃ (x dx t : Addr) (cs : List Int) (gg : Int), vs = [.ref x, .ref t, .int gg] ∧ H x = some (.ins a.c_Drift dx []) ∧ H t = some (.tup (cs.map V.int)) ∧ CH cs ∧ 0 ≤ gg ∧ gg ≤ 200 ∧ ∀ H', Fr1 x H H' → DAt a H' x cs gg → Q .non H'
def spSum : Sp := fun vs H Q _ => ∃ (x : Addr) (t : Nat) (cs : List Int) (gg : Int), vs = [.ref x, .int t] ∧ DAt a H x cs gg ∧ ∀ H', Same H H' → Q (.int (Th.sumTo cs gg t)) H'
def spBoth : Sp := fun vs H Q _ => ∃ (t : Addr) (cs : List Int) (g : Int), vs = [.ref t, .int g] ∧ H t = some (.tup (cs.map V.int)) ∧ CH cs ∧ 1 ≤ g ∧ g ≤ 200 ∧ ∀ z H', Same H H' → DDs a H' z cs g → Q (.ref z) H'
def spSi : Sp := fun vs H Q _ => ∃ (S : List Addr) (x dx td : Addr) (cs : List Int) (g d : Int) (on : Bool) (b : Nat), vs = [.ref x, .ref td, .bl on, .int b, .int d] ∧ H x = some (.ins a.c_Stretch dx []) ∧ x ∉ S ∧ DDs a (del H S) td cs g ∧ ∀ H', Fr1 x H H' → SAt a (del H' S) x cs g on b (d - Th.sumTo cs (Th.gon g on) b) → Q .non H'
def spDeg : Sp := fun vs H Q _ => ∃ (x : Addr) (t b : Nat) (cs : List Int) (g base : Int) (on : Bool), vs = [.ref x, .int t] ∧ SAt a H x cs g on b base ∧ ∀ H', Same H H' → Q (.int (Th.Dg cs (Th.gon g on) base t)) H'
def spState : Sp := fun vs H Q _ => ∃ (x : Addr) (b : Nat) (cs : List Int) (g base : Int) (on : Bool), vs = [.ref x] ∧ SAt a H x cs g on b base ∧ ∀ z H', Same H H' → H z = none → H' z = some (.tup [.int (((b % cs.length : Nat)) : Int), .int (Th.Dg cs (Th.gon g on) base b), .bl on]) → Q (.ref z) H'
def spSwitched : Sp := fun vs H Q _ => ∃ (S : List Addr) (x : Addr) (e b : Nat) (cs : List Int) (g base : Int) (on : Bool), vs = [.ref x, .int e] ∧ (∀ s ∈ S, ∃ o, H s = some o) ∧ SAt a (del H S) x cs g on b base ∧ ∀ z H', Same H H' → H z = none → SAt a (del H' S) z cs g (!on) e (Th.Dg cs (Th.gon g on) base e - Th.sumTo cs (Th.gon g (!on)) e) → Q (.ref z) H'
def spLevel : Sp := fun vs H Q _ => ∃ (x : Addr) (b : Nat) (cs : List Int) (g base : Int) (on : Bool), vs = [.ref x] ∧ SAt a H x cs g on b base ∧ Q (if Th.rsum cs (Th.gon g on) = 0 then .int cs.length else .non) H
def optV : Option Nat → V
  | none => .non
  | some k => .int k
def spFb : Sp := fun vs H Q _ => ∃ (x : Addr) (b : Nat) (cs : List Int) (g base bound sgn : Int) (on : Bool), vs = [.ref x, .int bound, .int sgn] ∧ SAt a H x cs g on b base ∧ b ≤ 1000000000000000000 ∧ (sgn = 1 ∨ sgn = -1) ∧
  ∀ r H', Same H H' → Th.FB cs (Th.gon g on) base b sgn bound r → Q (optV r) H'
def spHst : Sp := fun vs H Q _ => ∃ (d lo hi : Int) (b : Bool), vs = [.int d, .int lo, .int hi, .bl b] ∧ Q (.bl (Th.hst d lo hi b)) H
def spEnd : Sp := fun vs H Q _ => ∃ (c x dx : Addr) (fs : List (Str × V)) (p : Th.Par) (b : Nat), vs = [.ref c, .ref x] ∧ H c = some (.ins a.c_Course dx fs) ∧ fs.lookup ("_low" : Str) = some (.int p.lo) ∧ fs.lookup ("_high" : Str) = some (.int p.hi) ∧ fs.lookup ("first_beyond" : Str) = none ∧ SAt a H x p.ch p.g (Th.onn p b) b (Th.baB p b) ∧ b ≤ 1000000000000000000 ∧
  ∀ r H', Same H H' → Th.FB p.ch (Th.ggB p b) (Th.baB p b) b (Th.sgB p b) (Th.bdB p b) r → Q (optV r) H'
end
end W6

namespace W6
open PySem PySem.Spec PyProof.Rows L2
theorem ix_of {n : Nat} {z : Int} (h0 : 0 ≤ z) (h1 : z < n) : ixN n z = some z.toNat := by
  unfold ixN
  rw [if_pos h0, if_pos h1]
theorem at_int {xs : List V} {z : Int} {v : V} (h0 : 0 ≤ z) (h : xs[z.toNat]? = some v) : atI xs z = some v := by
  unfold atI
  have hl := (List.getElem?_eq_some_iff.mp h).1
  rw [ix_of h0 (by omega)]
  exact h
theorem map_at {cs : List Int} {j : Nat} (h : j < cs.length) : (cs.map V.int)[j]? = some (.int (cs.getD j 0)) := by
  simp [h]
theorem pick {cs : List Int} {i : Int} (i0 : 0 ≤ i) : ∃ c : Int, atI (cs.map V.int ++ [V.int 0]) (i % (if (((cs.map V.int).length : Nat) : Int) > 1 then (((cs.map V.int).length : Nat) : Int) else 1)) = some (.int c) ∧ (1000000000000000000 ≤ c → 0 < cs.length) := by
  rw [List.length_map]
  cases cs with
  | nil =>
    refine ⟨0, ?_, fun h => by omega⟩
    simp only [List.length_nil, Int.natCast_zero]
    rw [if_neg (by omega), show i % 1 = 0 by omega]
    rfl
  | cons e r =>
    generalize hn : (if (((e :: r).length : Nat) : Int) > 1 then (((e :: r).length : Nat) : Int) else 1) = n
    have hn2 : n = ((e :: r).length : Nat) := by
      subst hn
      simp only [List.length_cons]
      split <;> omega
    have npos : 0 < n := by rw [hn2]; simp only [List.length_cons]; omega
    have h0 : 0 ≤ i % n := Int.emod_nonneg _ (by omega)
    have h1 : i % n < n := Int.emod_lt_of_pos _ npos
    refine ⟨(e :: r).getD (i % n).toNat 0, at_int h0 ?_, fun _ => by simp⟩
    have hl : (i % n).toNat < (e :: r).length := by omega
    rw [List.getElem?_append_left (by rw [List.length_map]; exact hl)]
    exact map_at hl
section
variable {P : Program} {w : World} {K : PySem.W.Frag} {mg : Str → Option Value} {base : Heap} {a : Ad}
end
end W6

namespace W6
open PySem PySem.Spec PyProof.Rows L2
section
variable {P : Program} {w : World} {K : PySem.W.Frag} {mg : Str → Option Value} {base : Heap} {a : Ad}
theorem three {r : Int} (h0 : 0 ≤ r) (h1 : r < 3) (A B C : V) : ∃ v, atI [A, B, C] r = some v ∧ (v = A ∨ v = B ∨ v = C) := by
  rcases (show r = 0 ∨ r = 1 ∨ r = 2 by omega) with rfl | rfl | rfl
  · exact ⟨A, rfl, .inl rfl⟩
  · exact ⟨B, rfl, .inr (.inl rfl)⟩
  · exact ⟨C, rfl, .inr (.inr rfl)⟩
end
end W6

namespace W6
open PySem PySem.Spec PyProof.Rows L2
section
variable {P : Program} {w : World} {K : PySem.W.Frag} {mg : Str → Option Value} {base : Heap} {a : Ad}
theorem two {r : Int} (h0 : 0 ≤ r) (h1 : r < 2) (A B : V) : ∃ v, atI [A, B] r = some v ∧ (v = A ∨ v = B) := by
  rcases (show r = 0 ∨ r = 1 by omega) with rfl | rfl
  · exact ⟨A, rfl, .inl rfl⟩
  · exact ⟨B, rfl, .inr rfl⟩
theorem five {r : Int} (h0 : 0 ≤ r) (h1 : r < 5) (A B C D F : V) : ∃ v, atI [A, B, C, D, F] r = some v ∧ (v = A ∨ v = B ∨ v = C ∨ v = D ∨ v = F) := by
  rcases (show r = 0 ∨ r = 1 ∨ r = 2 ∨ r = 3 ∨ r = 4 by omega) with rfl | rfl | rfl | rfl | rfl
  · exact ⟨A, rfl, .inl rfl⟩
  · exact ⟨B, rfl, .inr (.inl rfl)⟩
  · exact ⟨C, rfl, .inr (.inr (.inl rfl))⟩
  · exact ⟨D, rfl, .inr (.inr (.inr (.inl rfl)))⟩
  · exact ⟨F, rfl, .inr (.inr (.inr (.inr rfl)))⟩
end
end W6

namespace W6
open PySem PySem.Spec PyProof.Rows L2 Ru StX
section
variable {P : Program} {w : World} {K : PySem.W.Frag} {mg : Str → Option Value} {base : Heap} {a : Ad}
theorem ok_check_gain (T : Txt K mg a) : FnOk P w K mg base CX0 1 a.f_check_gain a.d_check_gain ["gain"] spGain := by
  refine T.F_check_gain.ok sc_check_gain (fun vs H Q E h => ?_) (fun cdv A outer s H vs Q E hr h => ?_)
  · obtain ⟨g, rfl, _⟩ := h
    rfl
  · obtain ⟨g, rfl, g1, g2, k⟩ := h
    refine ⟨_, (pss_one (ps_if (pt_not (pt_chain op_le op_le pe_int (pv 0) (pe_glob (v := .int 200) rfl T.mg_MOST_GAIN.choose_spec ⟨_, rfl⟩))) (pss_one (ps_never)) pss_nil)), ?_⟩
    refine ⟨_, rfl, _, _, rfl, rfl, _, rfl, ?_⟩
    rw [if_pos (decide_eq_true g1)]
    refine ⟨_, _, rfl, rfl, _, rfl, ?_⟩
    show (if (!decide (g ≤ 200)) = true then _ else _)
    rw [decide_eq_true g2]
    exact iteF k
theorem ok_check_number (T : Txt K mg a) : FnOk P w K mg base CX0 1 a.f_check_number a.d_check_number ["number", "least", "greatest"] spNum := by
  refine T.F_check_number.ok sc_check_number (fun vs H Q E h => ?_) (fun cdv A outer s H vs Q E hr h => ?_)
  · obtain ⟨n, l, u, rfl, _⟩ := h
    rfl
  · obtain ⟨n, l, u, rfl, g1, g2, k⟩ := h
    refine ⟨_, (pss_one (ps_if (pt_not (pt_chain op_le op_le (pv 1) (pv 0) (pv 2))) (pss_one (ps_never)) pss_nil)), ?_⟩
    refine ⟨_, rfl, _, rfl, _, _, rfl, rfl, _, rfl, ?_⟩
    rw [if_pos (decide_eq_true g1)]
    refine ⟨_, rfl, _, _, rfl, rfl, _, rfl, ?_⟩
    show (if (!decide (n ≤ u)) = true then _ else _)
    rw [decide_eq_true g2]
    exact iteF k
theorem ok_can_be_thresholds (T : Txt K mg a) : FnOk P w K mg base CX0 1 a.f_can_be_thresholds a.d_can_be_thresholds ["low", "high"] spCb := by
  refine T.F_can_be_thresholds.ok sc_can_be_thresholds (fun vs H Q E h => ?_) (fun cdv A outer s H vs Q E hr h => ?_)
  · obtain ⟨lo, hi, rfl, _⟩ := h
    rfl
  · obtain ⟨lo, hi, rfl, k⟩ := h
    refine ⟨_, (pss_one (ps_ret (pe_ch3 op_le op_le op_le (pe_un un_neg (pe_glob (v := .int 1000000000000) rfl T.mg_MOST_DEGREES.choose_spec ⟨_, rfl⟩)) (pv 0) (pv 1) (pe_glob (v := .int 1000000000000) rfl T.mg_MOST_DEGREES.choose_spec ⟨_, rfl⟩)))), ?_⟩
    refine ⟨_, rfl, _, rfl, _, _, rfl, rfl, _, rfl, ?_⟩
    by_cases l1 : -1000000000000 ≤ lo
    · refine ifT (dT l1) ⟨_, rfl, _, _, rfl, rfl, _, rfl, ?_⟩
      by_cases l2 : lo ≤ hi
      · refine ifT (dT l2) ⟨_, _, rfl, rfl, ?_⟩
        have e : decide (hi ≤ 1000000000000) = decide (-1000000000000 ≤ lo ∧ lo ≤ hi ∧ hi ≤ 1000000000000) := by
          by_cases l3 : hi ≤ 1000000000000
          · rw [decide_eq_true l3, decide_eq_true ⟨l1, l2, l3⟩]
          · rw [decide_eq_false l3, decide_eq_false (fun q => l3 q.2.2)]
        rw [← e] at k
        exact k
      · refine ifF (dF l2) ?_
        rw [decide_eq_false (fun q => l2 q.2.1)] at k
        exact k
    · refine ifF (dF l1) ?_
      rw [decide_eq_false (fun q => l1 q.1)] at k
      exact k
theorem ok_Heater_init (T : Txt K mg a) : FnOk P w K mg base CX0 2 a.f_Heater_init a.d_Heater_init ["self", "gain", "low", "high"] (spHi a) := by
  have G_check_gain : FnOk P w K mg base CX0 1 a.f_check_gain a.d_check_gain ["gain"] spGain := ok_check_gain T
  have G_can_be_thresholds : FnOk P w K mg base CX0 1 a.f_can_be_thresholds a.d_can_be_thresholds ["low", "high"] spCb := ok_can_be_thresholds T
  refine T.F_Heater_init.ok sc_Heater_init (fun vs H Q E h => ?_) (fun cdv A outer s H vs Q E hr h => ?_)
  · obtain ⟨x, dx, g, lo, hi, rfl, _⟩ := h
    rfl
  · obtain ⟨x, dx, g, lo, hi, rfl, hx, g1, g2, l1, l2, l3, k⟩ := h
    refine ⟨_, (pss_cons (ps_expr (pe_call G_check_gain (hr.mono (by decide)) (by rfl) T.mg_check_gain T.F_check_gain.kp (b_check_gain T) .nil pass0 (pa_cons (pv 1) pa_nil)))
      (pss_cons (ps_if (pt_not (pt_val (pe_call G_can_be_thresholds (hr.mono (by decide)) (by rfl) T.mg_can_be_thresholds T.F_can_be_thresholds.kp (b_can_be_thresholds T) .nil pass0 (pa_cons (pv 2) (pa_cons (pv 3) pa_nil))))) (pss_one (ps_never)) pss_nil)
      (pss_cons (ps_fld (pv 0) (pv 1) rfl)
      (pss_cons (ps_fld (pv 0) (pv 2) rfl)
      (pss_one (ps_fld (pv 0) (pv 3) rfl)))))), ?_⟩
    refine ⟨_, rfl, g, rfl, g1, g2, ?_⟩
    refine ⟨_, rfl, _, rfl, lo, hi, rfl, ?_⟩
    rw [decide_eq_true (show -1000000000000 ≤ lo ∧ lo ≤ hi ∧ hi ≤ 1000000000000 from ⟨l2, l1, l3⟩)]
    refine ⟨_, rfl, ?_⟩
    refine ifF rfl ?_
    refine ⟨_, rfl, _, rfl, x, _, dx, _, rfl, hx, T.cl_Heater, T.na_Heater__gain, by show 0 < 1000; decide, ?_⟩
    refine ⟨_, rfl, _, rfl, x, _, dx, _, rfl, upd_same, T.cl_Heater, T.na_Heater__low, by show 1 < 1000; decide, ?_⟩
    refine ⟨_, rfl, _, rfl, x, _, dx, _, rfl, upd_same, T.cl_Heater, T.na_Heater__high, by show 2 < 1000; decide, ?_⟩
    exact k _ ((Fr1.upd.trans Fr1.upd).trans Fr1.upd) ⟨dx, by rw [upd_same]; rfl⟩
theorem ok_first_invalid (T : Txt K mg a) : FnOk P w K mg base CX0 1 a.f_first_invalid a.d_first_invalid ["values", "least", "greatest", "most"] spFi := by
  refine T.F_first_invalid.ok sc_first_invalid (fun vs H Q E h => ?_) (fun cdv A outer s H vs Q E hr h => ?_)
  · obtain ⟨t, cs, lo, hi, most, rfl, _⟩ := h
    rfl
  · obtain ⟨t, cs, lo, hi, most, rfl, ht, k1, k2, k3⟩ := h
    refine ⟨_, (pss_cons (ps_for PassesOwn.never rfl (pi_enumT (by rfl) T.z_enumerate (pa_cons (pv 0) pa_nil)) (pg_tup rfl (pgs_cons (pg_name (i := 4) sc_first_invalid.nd rfl (Or.inl rfl)) (pgs_cons (pg_name (i := 5) sc_first_invalid.nd rfl (Or.inl rfl)) pgs_nil)))
        (pss_one (ps_if (PW.pt (pw_or (pt_cmpR op_ge (pv 4) (pv 3) (nomark _)) (pw_or1 (pt_not (pt_chain op_le op_le (pv 1) (pv 5) (pv 2)))))) (pss_one (ps_ret (pv 4))) pss_nil)))
      (pss_one (ps_ret (pe_ifExp (pt_cmpR op_eq (pe_callB call_len_seq (by rfl) T.z_len PySem.boot_len (pa_cons (pv 0) pa_nil)) pe_int (nomark _)) pe_int pe_non)))), ?_⟩
    refine ⟨_, rfl, t, cs.map V.int, rfl, SqT.of ht, for_enumT (fun i σ H' => (∃ u v : Option V, σ = [some (.ref t), some (.int lo), some (.int hi), some (.int most), u, v] ∧ Same H H') ∧ ∀ (j : Nat) (d : Int), j < i → cs[j]? = some d → (j : Int) < most ∧ lo ≤ d ∧ d ≤ hi) ⟨⟨none, none, rfl, Same.refl _⟩, fun j d hj => absurd hj (Nat.not_lt_zero _)⟩ (fun i σ H' ⟨⟨_, _, _, s⟩, _⟩ => SqT.of (s _ _ ht)) ?_ ?_⟩
    · rintro i v σ H' tt hi' ⟨⟨u1, u2, rfl, sm⟩, ok⟩ htt
      obtain ⟨c, hc, rfl⟩ : ∃ c, cs[i]? = some c ∧ v = V.int c := by
        rw [List.getElem?_map] at hi'
        cases e : cs[i]? with
        | none => rw [e] at hi'; cases hi'
        | some c => rw [e] at hi'; exact ⟨c, rfl, (Option.some.inj hi').symm⟩
      have sm2 : Same H (upd H' tt (.tup [.int (i : Nat), .int c])) := sm.trans (same_upd htt)
      refine ⟨tt, _, rfl, SqT.of upd_same, rfl, _, _, rfl, _, _, rfl, rfl, ?_⟩
      refine ⟨_, rfl, _, rfl, _, _, rfl, rfl, _, rfl, ?_⟩
      by_cases c1 : most ≤ (i : Int)
      · refine ifT (dT c1) ⟨_, rfl, ?_⟩
        exact k2 _ i c sm2 hc (fun q => by omega) ok
      · refine ifF (dF c1) ⟨_, rfl, _, rfl, _, _, rfl, rfl, _, rfl, ?_⟩
        by_cases c2 : lo ≤ c
        · refine ifT (dT c2) ⟨_, rfl, _, _, rfl, rfl, _, rfl, ?_⟩
          by_cases c3 : c ≤ hi
          · refine ifF (nF c3) ?_
            refine ⟨⟨_, _, rfl, sm2⟩, fun j d hj e => ?_⟩
            by_cases q : j < i
            · exact ok j d q e
            · obtain rfl : j = i := by omega
              rw [hc] at e; cases e
              exact ⟨by omega, c2, c3⟩
          · refine ifT (nT c3) ⟨_, rfl, ?_⟩
            exact k2 _ i c sm2 hc (fun q => c3 q.2.2) ok
        · refine ifF (dF c2) ⟨_, rfl, ?_⟩
          refine ifT rfl ⟨_, rfl, ?_⟩
          exact k2 _ i c sm2 hc (fun q => c2 q.2.1) ok
    · rintro σ H' ⟨⟨u1, u2, rfl, sm⟩, ok⟩
      refine ⟨_, rfl, t, _, rfl, .inr (SqT.of (sm _ _ ht)), rfl, _, rfl, ?_⟩
      by_cases e0 : cs = []
      · subst e0
        exact ifT rfl (k3 _ sm rfl)
      · refine ifF (dF (by intro q; injection q with q; rw [List.length_map] at q; exact e0 (List.eq_nil_of_length_eq_zero (by omega)))) ?_
        refine k1 _ sm e0 fun i c hc => ok i c ?_ hc
        rw [List.length_map]
        exact (List.getElem?_eq_some_iff.mp hc).1
/-- Weather(..) -/
theorem ok_Weather_init (T : Txt K mg a) : FnR P w K mg base CX0 2 a.f_Weather_init (spWs a) := by
  have G_first_invalid : FnOk P w K mg base CX0 1 a.f_first_invalid a.d_first_invalid ["values", "least", "greatest", "most"] spFi := ok_first_invalid T
  obtain ⟨oc, od, kV, doc, pm, an, cdv, ct, osl, e, lk, hcd⟩ := T.F_Weather_init.ex
  rw [e] at lk
  refine fn_star (ps := ["self"]) (pv := "changes") (sp := spWi a) lk hcd sc_Weather_init cxUp_none (bind_star1 (B := fun us => bindArgs (PySem.W.fnOf "__init__" "Weather.__init__" (defArgs s_Weather_init) (defBody s_Weather_init) (defScope s_Weather_init) .none kV doc pm an cdv ct) ⟨us, []⟩) (fun _ => rfl) (fun _ _ _ => rfl)) (fun A outer s H vs Q E hr h => ?_)
  obtain ⟨x, dx, p, cs, rfl, hx, hp, ⟨c1, c2, c3⟩, k⟩ := h
  obtain ⟨tt, cvT⟩ := T.cv_Weather_MAX_TICKS
  obtain ⟨tc, cvC⟩ := T.cv_Weather_MAX_CHANGE
  have npx : p ≠ x := ne_of hp hx (fun z => nomatch z)
  refine ⟨_, PSs.nox ((pss_cons (ps_set (i := 2) sc_Weather_init.nd rfl (Or.inl rfl) (pe_call G_first_invalid (hr.mono (by decide)) (by rfl) T.mg_first_invalid T.F_first_invalid.kp (b_first_invalid T) .nil pass0 (pa_cons (pv 1) (pa_cons (pe_un un_neg (pe_con (pv 0) rfl)) (pa_cons (pe_con (pv 0) rfl) (pa_cons (pe_con (pv 0) rfl) pa_nil))))))
      (pss_cons (ps_if (pt_cmpR op_notN (pv 2) pe_non (nomark _)) (pss_one (ps_never)) pss_nil)
      (pss_one (ps_fld (pv 0) (pv 1) rfl))))), ?_⟩
  refine ⟨_, rfl, _, rfl, x, _, dx, _, _, _, rfl, hx, T.cl_Weather, cvC, rfl, _, rfl, _, rfl, x, _, dx, _, _, _, rfl, hx, T.cl_Weather, cvC, rfl, _, rfl, x, _, dx, _, _, _, rfl, hx, T.cl_Weather, cvT, rfl, p, cs, _, _, _, rfl, hp, fun H' sm _ _ => ?_, fun H' i c sm hc bad _ => ?_, fun H' _ e0 => ?_⟩
  · refine ⟨_, rfl, rfl, _, rfl, ?_⟩
    refine ifF rfl ?_
    refine ⟨_, rfl, _, rfl, x, _, dx, _, rfl, sm _ _ hx, T.cl_Weather, T.na_Weather__changes, by show 0 < 1000; decide, ?_⟩
    exact k _ ((Fr1.of sm).trans Fr1.upd) ⟨dx, p, by rw [upd_same]; rfl, by rw [upd_ne npx]; exact sm _ _ hp⟩
  · have := c3 c (List.mem_of_getElem? hc)
    have := (List.getElem?_eq_some_iff.mp hc).1
    exact absurd ⟨by omega, by omega, by omega⟩ bad
  · rw [e0] at c1
    exact absurd c1 (by decide)
/-- what the making of a weather asks -/
theorem weather_made {H : Hp} {Q : VK} {E : XK} {cs : List Int} (c : CH cs) (k : ∀ z H', Same H H' → WAt a H' z cs → Q (.ref z) H') : ∀ x dx, H x = none → H dx = none → dx ≠ x → spWs a (V.ref x :: cs.map V.int) (upd (upd H dx (.own x)) x (.ins a.c_Weather dx [])) (fun v H2 => v = .non ∧ Q (.ref x) H2) E := fun x dx nx nd ne =>
  ⟨[.ref x], cs.map V.int, rfl, rfl, by rw [List.length_map]; exact Nat.le_of_lt (small1000 (by have := c.2.1; omega)), fun p hp => by
    have npx : x ≠ p := ne_of_none upd_same hp
    have s1 := same_upd (o := .tup (cs.map V.int)) hp
    exact ⟨x, dx, p, cs, rfl, s1 _ _ upd_same, upd_same, c, fun H' fr wt => ⟨rfl, k x H' (Fr1.made nx nd ((Fr1.of s1).trans fr)) wt⟩⟩⟩
end
end W6

namespace W6
open PySem PySem.Spec PyProof.Rows L2
/-- all but one object as they were -/
def Kp (x : Addr) (H H' : Hp) : Prop := ∀ b o, b ≠ x → H b = some o → H' b = some o
theorem Kp.of {x : Addr} {H H' : Hp} (s : Same H H') : Kp x H H' := fun b o _ e => s b o e
theorem Kp.refl (x : Addr) (H : Hp) : Kp x H H := fun _ _ _ e => e
theorem Kp.trans {x : Addr} {H H1 H2 : Hp} (a : Kp x H H1) (b : Kp x H1 H2) : Kp x H H2 := fun c o n e => b c o n (a c o n e)
theorem Kp.upd {x : Addr} {H : Hp} {o : HO} : Kp x H (L2.upd H x o) := fun b u n e => by rw [upd_ne n]; exact e
/-- the state of the draws: the script, how many cells are drawn, the mixed number, the rest of a great cell -/
def LS (K : PySem.W.Frag) (H : Hp) (x y : Addr) : Prop := ∃ (ns : List Int) (i m c : Int), H x = some (.lst [.ref y, .int i, .int m, .int c]) ∧ SqL K H y (ns.map V.int) ∧ 0 ≤ i ∧ 0 ≤ m ∧ m < 2147483647 ∧ 0 ≤ c ∧ ns.length ≤ 63
theorem ref_ints {y : Addr} {l : List V} {ns : List Int} (h : V.ref y :: l = ns.map V.int) : False := by
  cases ns with
  | nil => cases h
  | cons n r => simp at h
theorem sqOff {K : PySem.W.Frag} {H : Hp} {x y : Addr} {l : List V} {ns : List Int} {o : HO} (hx : H x = some (.lst (.ref y :: l))) (h : SqL K H y (ns.map V.int)) : SqL K (upd H x o) y (ns.map V.int) := by
  rcases h with (h | ⟨ob, h⟩) | h
  · exact .inl (.inl (by rw [upd_ne (fun e => by rw [e, hx] at h; injection h with h; injection h with h; exact ref_ints h)]; exact h))
  · exact .inl (.inr ⟨ob, by rw [upd_ne (fun e => by rw [e, hx] at h; injection h with h; cases h)]; exact h⟩)
  · exact .inr h
theorem LS.same {K : PySem.W.Frag} {H H' : Hp} {x y : Addr} (h : LS K H x y) (s : Same H H') : LS K H' x y := by
  obtain ⟨ns, i, m, c, h1, h2, r⟩ := h
  exact ⟨ns, i, m, c, s _ _ h1, s.seq h2, r⟩
theorem LS.off {K : PySem.W.Frag} {H : Hp} {x y p : Addr} (h : LS K H x y) (hp : H p = none) : p ≠ x := by
  obtain ⟨ns, i, m, c, h1, h2, r⟩ := h
  exact (ne_of_none h1 hp).symm
/-- what is no list is not the state -/
theorem LS.ne {K : PySem.W.Frag} {H : Hp} {x y b : Addr} {o : HO} (h : LS K H x y) (e : H b = some o) (n : ∀ xs, o ≠ .lst xs) : b ≠ x := by
  obtain ⟨ns, i, m, c, h1, h2, r⟩ := h
  exact ne_of e h1 (n _)
theorem Kp.get {K : PySem.W.Frag} {H H' : Hp} {x y b : Addr} {o : HO} (k : Kp x H H') (h : LS K H x y) (e : H b = some o) (n : ∀ xs, o ≠ .lst xs) : H' b = some o := k _ _ (h.ne e n) e
/-- an update at D leaves the script alone -/
def NY (K : PySem.W.Frag) (y D : Addr) : Prop := y ≠ D ∨ ∃ ns : List Int, ns.length ≤ 63 ∧ ∀ H, SqL K H y (ns.map V.int)
theorem LS.fresh {K : PySem.W.Frag} {H : Hp} {x y D : Addr} (h : LS K H x y) (hD : H D = none) : NY K y D := by
  obtain ⟨ns, i, m, c, h1, h2, _, _, _, _, nl⟩ := h
  rcases h2 with (h | ⟨ob, h⟩) | h
  · exact .inl (ne_of_none h hD)
  · exact .inl (ne_of_none h hD)
  · exact .inr ⟨ns, nl, fun _ => .inr h⟩
theorem LS.updD {K : PySem.W.Frag} {H : Hp} {x y D : Addr} {o : HO} (h : LS K H x y) (n1 : D ≠ x) (n2 : NY K y D) : LS K (upd H D o) x y := by
  obtain ⟨ns, i, m, c, h1, h2, i0, m0, m1, c0, nl⟩ := h
  have h1' : upd H D o x = some (.lst [.ref y, .int i, .int m, .int c]) := by rw [upd_ne (Ne.symm n1)]; exact h1
  rcases n2 with n2 | ⟨ms, ml, hm⟩
  · refine ⟨ns, i, m, c, h1', ?_, i0, m0, m1, c0, nl⟩
    rcases h2 with (h | ⟨ob, h⟩) | h
    · exact .inl (.inl (by rw [upd_ne n2]; exact h))
    · exact .inl (.inr ⟨ob, by rw [upd_ne n2]; exact h⟩)
    · exact .inr h
  · exact ⟨ms, i, m, c, h1', hm _, i0, m0, m1, c0, ml⟩
def spStart (K : PySem.W.Frag) : Sp := fun vs H Q _ => ∃ (y : Addr) (ns : List Int), vs = [.ref y] ∧ SqL K H y (ns.map V.int) ∧ ns.length ≤ 63 ∧ ∀ x H', LS K H' x y → Same H H' → H x = none → Q (.ref x) H'
def spDrawn (K : PySem.W.Frag) : Sp := fun vs H Q _ => ∃ (x y : Addr) (lim : Int), vs = [.ref x, .int lim] ∧ LS K H x y ∧ 0 < lim ∧ lim < 18446744073709551616 ∧ ∀ r H', 0 ≤ r → r < lim → LS K H' x y → Kp x H H' → Q (.int r) H'
section
variable {P : Program} {w : World} {K : PySem.W.Frag} {mg : Str → Option Value} {base : Heap} {a : Ad}
theorem ok__law_start (T : Txt K mg a) : FnOk P w K mg base CX0 1 a.f__law_start a.d__law_start ["_law_script"] (spStart K) := by
  refine T.F__law_start.ok sc__law_start (fun vs H Q E h => ?_) (fun cdv A outer s H vs Q E hr h => ?_)
  · obtain ⟨c, ns, rfl, _⟩ := h
    rfl
  · obtain ⟨c, ns, rfl, hS, hl, k⟩ := h
    refine ⟨_, (pss_cons (ps_set (i := 1) sc__law_start.nd rfl (Or.inl rfl) pe_int)
      (pss_cons (ps_for PassesOwn.never rfl (pi_list (pv 0)) (pg_name (i := 2) sc__law_start.nd rfl (Or.inl rfl))
        (pss_one (ps_set (i := 1) sc__law_start.nd rfl (Or.inl rfl) (pe_op op_mod (pe_op op_add (pe_op op_add (pe_op op_mul (pv 1) pe_int) (pv 2)) pe_int) pe_int))))
      (pss_one (ps_ret (pe_lst (pa_cons (pv 0) (pa_cons pe_int (pa_cons (pv 1) (pa_cons pe_int pa_nil))))))))), ?_⟩
    refine ⟨_, rfl, c, rfl, ⟨_, hS⟩, for_list (K := K) (a := c) (xs := ns.map V.int) (fun i σ H' => ∃ (m : Int) (v : Option V), σ = [some (.ref c), some (.int m), v] ∧ 0 ≤ m ∧ m < 2147483647 ∧ H' = H) ⟨1, none, rfl, by decide, by decide, rfl⟩ (fun i σ H' _ ⟨_, _, _, _, _, e⟩ => e ▸ hS) ?_ ?_⟩
    · rintro i v σ H' hi ⟨m, o, rfl, m0, m1, rfl⟩
      obtain ⟨u, rfl⟩ : ∃ u, v = V.int u := by
        rw [List.getElem?_map] at hi
        cases e : ns[i]? with
        | none => rw [e] at hi; cases hi
        | some u => rw [e] at hi; exact ⟨u, (Option.some.inj hi).symm⟩
      refine ⟨_, rfl, _, _, rfl, rfl, .inr ⟨by decide, by decide⟩, _, rfl, _, _, rfl, rfl, _, _, rfl, rfl, _, _, rfl, rfl, (by show (0 : Int) < 2147483647; decide), ?_⟩
      exact ⟨_, _, rfl, Int.emod_nonneg _ (by omega), Int.emod_lt_of_pos _ (by omega), rfl⟩
    · rintro σ H' ⟨m, o, rfl, m0, m1, rfl⟩
      refine ⟨_, rfl, _, rfl, by show 4 ≤ sizeLine; decide, fun x hx => ?_⟩
      exact k x _ ⟨ns, 0, m, 0, upd_same, (same_upd hx).seq hS, by decide, m0, m1, by decide, hl⟩ (same_upd hx) hx
theorem ok__law_drawn (T : Txt K mg a) : FnOk P w K mg base CX0 1 a.f__law_drawn a.d__law_drawn ["_law_state", "_law_count"] (spDrawn K) := by
  refine T.F__law_drawn.ok sc__law_drawn (fun vs H Q E h => ?_) (fun cdv A outer s H vs Q E hr h => ?_)
  · obtain ⟨x, y, lim, rfl, _⟩ := h
    rfl
  · obtain ⟨x, y, lim, rfl, lh, l0, l1, k⟩ := h
    obtain ⟨ns, i, m, c, hx, hy, i0, m0, m1, c0, nl⟩ := id lh
    refine ⟨_, (pss_cons (ps_if (pt_cmpR op_gt (pe_ix ix_list (pv 0) pe_int (fun _ _ => rfl)) pe_int (nomark _)) (pss_cons (ps_set (i := 2) sc__law_drawn.nd rfl (Or.inl rfl) (pe_op op_mod (pe_ix ix_list (pv 0) pe_int (fun _ _ => rfl)) (pv 1)))
      (pss_cons (ps_asg (pe_op op_fdivW (pe_ix ix_list (pv 0) pe_int (fun _ _ => rfl)) (pv 1)) (pg_sub (pv 0) pe_int set_list))
      (pss_one (ps_ret (pv 2))))) pss_nil)
      (pss_cons (ps_asg (pe_op op_add (pe_ix ix_list (pv 0) pe_int (fun _ _ => rfl)) pe_int) (pg_sub (pv 0) pe_int set_list))
      (pss_cons (ps_if (pt_cmpR op_le (pe_ix ix_list (pv 0) pe_int (fun _ _ => rfl)) (pe_callB call_len_seq (by rfl) T.z_len PySem.boot_len (pa_cons (pe_ix ix_list (pv 0) pe_int (fun _ _ => rfl)) pa_nil)) (nomark _)) (pss_cons (ps_set (i := 3) sc__law_drawn.nd rfl (Or.inl rfl) (pe_ix ix_list (pe_ix ix_list (pv 0) pe_int (fun _ _ => rfl)) (pe_op op_sub (pe_ix ix_list (pv 0) pe_int (fun _ _ => rfl)) pe_int) (fun _ _ => rfl)))
      (pss_cons (ps_asg (pe_ifExp (pt_cmpR op_ge (pv 3) (pe_op op_pow pe_int pe_int) (nomark _)) (pe_op op_fdivW (pv 3) (pv 1)) pe_int) (pg_sub (pv 0) pe_int set_list))
      (pss_one (ps_ret (pe_op op_mod (pv 3) (pv 1)))))) pss_nil)
      (pss_cons (ps_asg (pe_op op_mod (pe_op op_add (pe_op op_mul (pe_ix ix_list (pv 0) pe_int (fun _ _ => rfl)) pe_int) pe_int) pe_int) (pg_sub (pv 0) pe_int set_list))
      (pss_one (ps_ret (pe_op op_mod (pe_op op_fdiv (pe_ix ix_list (pv 0) pe_int (fun _ _ => rfl)) pe_int) (pv 1)))))))), ?_⟩
    have nl' : (ns.map V.int).length = ns.length := List.length_map _
    refine ⟨_, rfl, x, _, _, _, rfl, rfl, SqL.of hx, rfl, _, _, rfl, rfl, _, rfl, ?_⟩
    have stay : ∀ {o : HO}, SqL K (upd H x o) y (ns.map V.int) := sqOff hx hy
    refine ite2 (fun big => ?_) (fun small => ?_)
    · refine ⟨_, rfl, x, _, _, _, rfl, rfl, SqL.of hx, rfl, _, rfl, _, _, rfl, rfl, l0, ?_⟩
      refine ⟨_, rfl, x, _, _, _, rfl, rfl, SqL.of hx, rfl, _, rfl, _, _, rfl, rfl, wide_div (b := 64) l0 (by omega) (by decide) (by decide), _, rfl, x, _, _, _, rfl, rfl, hx, rfl, ?_⟩
      refine ⟨_, rfl, k _ _ (Int.emod_nonneg _ (by omega)) (Int.emod_lt_of_pos _ l0) ⟨ns, i, m, c / lim, upd_same, stay, i0, m0, m1, Int.ediv_nonneg c0 (by omega), nl⟩ Kp.upd⟩
    · refine ⟨_, rfl, x, _, _, _, rfl, rfl, SqL.of hx, rfl, _, _, rfl, rfl, _, rfl, x, _, _, _, rfl, rfl, hx, rfl, ?_⟩
      have hx1 := upd_same (H := H) (a := x) (o := .lst [.ref y, .int (i + 1), .int m, .int c])
      have hy1 := stay (o := .lst [.ref y, .int (i + 1), .int m, .int c])
      have k1 : Kp x H (upd H x (.lst [.ref y, .int (i + 1), .int m, .int c])) := Kp.upd
      refine (?_ : tSeq _ _ _ _ (upd H x (.lst [.ref y, .int (i + 1), .int m, .int c])))
      generalize upd H x (.lst [.ref y, .int (i + 1), .int m, .int c]) = H1 at hx1 hy1 k1 ⊢
      refine ⟨_, rfl, x, _, _, _, rfl, rfl, SqL.of hx1, rfl, _, rfl, x, _, _, _, rfl, rfl, SqL.of hx1, rfl, y, _, rfl, .inl hy1, _, _, rfl, rfl, _, rfl, ?_⟩
      refine ite2 (fun le => ?_) (fun gt => ?_)
      · have le : i + 1 ≤ (((ns.map V.int).length : Nat) : Int) := of_decide_eq_true le
        have hi : i.toNat < ns.length := by omega
        have hat : atI (ns.map V.int) (i + 1 - 1) = some (.int (ns.getD i.toNat 0)) := by
          refine at_int (by omega) ?_
          rw [show (i + 1 - 1).toNat = i.toNat by omega]
          exact map_at hi
        generalize ns.getD i.toNat 0 = cell at hat
        refine ⟨_, rfl, x, _, _, _, rfl, rfl, SqL.of hx1, rfl, _, rfl, x, _, _, _, rfl, rfl, SqL.of hx1, rfl, _, _, rfl, rfl, y, _, _, _, rfl, rfl, hy1, hat, ?_⟩
        refine ⟨_, rfl, _, _, rfl, rfl, ⟨by decide, by decide, by decide⟩, _, _, rfl, rfl, _, rfl, ?_⟩
        have fin : ∀ c' : Int, 0 ≤ c' → ∀ r : Int, 0 ≤ r → r < lim → Q (.int r) (upd H1 x (.lst [.ref y, .int (i + 1), .int m, .int c'])) := fun c' hc' r r0 r1 => k r _ r0 r1 ⟨ns, i + 1, m, c', upd_same, sqOff hx1 hy1, by omega, m0, m1, hc', nl⟩ (k1.trans Kp.upd)
        refine ite2 (fun g => ?_) (fun g => ?_)
        · have g : (10 : Int) ^ (18 : Int).toNat ≤ cell := of_decide_eq_true g
          have p18 : (10 : Int) ^ (18 : Int).toNat = 1000000000000000000 := by decide
          refine ⟨_, rfl, _, rfl, _, _, rfl, rfl, wide_div (b := 64) l0 (by omega) (by decide) (by decide), _, rfl, x, _, _, _, rfl, rfl, hx1, rfl, ?_⟩
          exact ⟨_, rfl, _, rfl, _, _, rfl, rfl, l0, fin _ (Int.ediv_nonneg (by omega) (by omega)) _ (Int.emod_nonneg _ (by omega)) (Int.emod_lt_of_pos _ l0)⟩
        · refine ⟨_, rfl, x, _, _, _, rfl, rfl, hx1, rfl, ?_⟩
          exact ⟨_, rfl, _, rfl, _, _, rfl, rfl, l0, fin _ (by decide) _ (Int.emod_nonneg _ (by omega)) (Int.emod_lt_of_pos _ l0)⟩
      · refine ⟨_, rfl, x, _, _, _, rfl, rfl, SqL.of hx1, rfl, _, _, rfl, rfl, .inr ⟨by decide, by decide⟩, _, _, rfl, rfl, _, _, rfl, rfl, (by show (0 : Int) < 2147483647; decide), _, rfl, x, _, _, _, rfl, rfl, hx1, rfl, ?_⟩
        refine ⟨_, rfl, x, _, _, _, rfl, rfl, SqL.of upd_same, rfl, _, _, rfl, rfl, ⟨by decide, by decide⟩, _, rfl, _, _, rfl, rfl, l0, k _ _ (Int.emod_nonneg _ (by omega)) (Int.emod_lt_of_pos _ l0) ?_ (k1.trans Kp.upd)⟩
        exact ⟨_, i + 1, _, c, upd_same, sqOff hx1 hy1, by omega, Int.emod_nonneg _ (by omega), Int.emod_lt_of_pos _ (by omega), c0, nl⟩
end
end W6

set_option maxHeartbeats 4000000
/-! isinstance of a caught error that has a dict; count of a list of flat things; a lambda's call in a try whose suite reads the state -/
namespace Ru
open PySem PySem.Spec PyProof.Rows L2 LamX
/-! ### isinstance(e, c) -/
/-- the error has no dict, or one that is tracked -/
def DictAt (d : Option Addr) (H : Hp) : Prop := d = none ∨ ∃ (dd : Addr) (fs : List (Str × V)), d = some dd ∧ H dd = some (.xd fs)
def rIsX (K : PySem.W.Frag) (a : Addr) (cls : Value) (d : Option Addr) : List V → Hp → VK → Prop := fun xs H Q =>
  ∃ (D : Addr) (c : V) (cv : Value) (b : Bool), cls = .ref D ∧ ExcC K D ∧ DictAt d H ∧ xs = [.ref a, c] ∧ (∀ u, RelV c u → u = cv) ∧ PySem.W.kitOne K (.ref D) cv = some b ∧ Q (.bl b) H
theorem call_isX {X : Cx} {a : Addr} {cls : Value} {d : Option Addr} {oe : Obj} {pn : List (Addr × Obj)} (hz : Zc cls d oe) (hf : ∃ vs, oe.data = .fields vs) : CallR (X.suite a ((a, oe) :: pn)) (.builtin "isinstance") (rIsX X.K a cls d) := by
  intro pins s σ H xs us Q I r h
  obtain ⟨D, c, cv, b, rfl, C, hd, rfl, hcv, e, q⟩ := h
  obtain ⟨v1, us', rfl, r1, rr⟩ : ∃ v1 us', us = v1 :: us' ∧ RelV (.ref a) v1 ∧ Vals [c] us' := by cases r with | cons p q => exact ⟨_, _, rfl, p, q⟩
  obtain ⟨v2, rfl, r2⟩ := rr.one
  obtain rfl : v1 = Value.ref a := r1
  obtain rfl := hcv _ r2
  have hp := (I.pin (a, oe) (List.mem_append_left _ List.mem_cons_self)).1
  obtain ⟨vs, hv⟩ := hf
  obtain ⟨cd, hcd, _⟩ := PySem.W.any_some C.hd
  have hcl : (PySem.W.clsIn X.K D).isSome = true := by rw [hcd]; rfl
  have fin : ∀ od : Option Obj, PySem.W.InstAt s.heap a oe D od → wpAny (model X.prog X.w) (X.suite a ((a, oe) :: pn)).A (call (.builtin "isinstance") [.ref a, v2]) (EP (X.suite a ((a, oe) :: pn)) pins σ Q) (X.suite a ((a, oe) :: pn)).xe s := fun od J =>
    PySem.W.kia_one (PySem.W.kitx_exc (od := od) hcl C.hg C.hk C.hs C.ha C.hn C.ht C.hm) I.kIn J e (fun z => nomatch z) fun tk => ⟨.bl b, H, I.kept (t' := tk) fun _ _ z => z, rfl, q⟩
  rcases hd with rfl | ⟨dd, fs, rfl, hx⟩
  · exact fin none ⟨hp, hz.1, by unfold PySem.W.notCls; rw [hv] <;> rfl, by rw [hz.2]; trivial⟩
  · have ob : ObjOk X.prog X.w H s.heap dd (.xd fs) := I.hok dd _ hx
    obtain ⟨mA, hns, hr⟩ := ob
    obtain ⟨od, ho, hl⟩ := lookIn_ns hns
    exact fin (some od) ⟨hp, hz.1, by unfold PySem.W.notCls; rw [hv] <;> rfl, by rw [hz.2]; exact ho⟩
/-! ### xs.count(y) -/
def rCntF (K : PySem.W.Frag) : V → List V → Hp → VK → Prop := fun x xs H Q => ∃ (p : Addr) (ys : List V) (y : V), x = .ref p ∧ xs = [y] ∧ SqL K H p ys ∧ flatV y = true ∧ ys.all flatV = true ∧ Q (.int (ys.countP (fun z => eqV z y) : Nat)) H
theorem cnt_flat {y : V} : ∀ {ys : List V} {us : List Value}, Vals ys us → ys.all flatV = true → us.countP (eqU y) = ys.countP (fun z => eqV z y)
  | _, _, .nil, _ => rfl
  | _, _, .cons r rs, h => by
    simp only [List.all_cons, Bool.and_eq_true] at h
    rw [List.countP_cons, List.countP_cons, cnt_flat rs h.2, eqU_of r h.1]
theorem mt_countF {X : Cx} : MtR X "list.count" (rCntF X.K) := by
  intro pins s σ H x xs v us Q I rx rxs h
  obtain ⟨p, ys, y, rfl, rfl, hs, fy, fys, q⟩ := h
  obtain rfl : v = Value.ref p := rx
  obtain ⟨uy, rfl, ry⟩ := rxs.one
  obtain ⟨its, rv, ⟨⟨cls, dd, data, sl⟩, n, ho, hc, hdn, hd⟩, hlen⟩ := I.list hs
  obtain rfl : cls = .type "list" := hc
  obtain rfl : data = .seq its.toArray n := hd
  refine call_meets PySem.F.slot_list_count ⟨_, ho, rfl⟩ PySem.F.entry_list_count (PySem.F.args_list_count_2 _ _)
    (SeqAt.list_countAt p its.toArray n dd sl uy (eqU y)) ⟨ho, fun u hu => mem_eqAt ry fy rv fys u (by simpa using hu), ?_⟩
  refine ⟨.int (ys.countP (fun z => eqV z y) : Nat), H, I.tok _, ⟨s.toks, ?_⟩, q⟩
  rw [show its.toArray.toList = its by simp, cnt_flat rv fys]
/-! ### a lambda without parameters: made, handed to a def, called there in a try -/
section
variable {X : Cx} {pins : List (Addr × Obj)} {σ : L2.St} {H : Hp} {s : Shared}
/-- the call: what the try around takes may rest on the state at the call -/
def tAct (f c' : Addr) (q : Str) (tl : XK → Hp → VK → Prop) (W : WX) : TE := fun σz Hz Q =>
  σz[0]? = some (some (.ref f)) ∧ Hz c' = some (CodeO c' q) ∧ ∃ Ez : XK, (∀ cls d Hy, Ez cls d Hy → W cls d σz Hy) ∧ tl Ez Hz Q
theorem pe_call_lam {sg : Scope} {g f c' : Addr} {cdg pm ctv : Value} {Ng : List Str} {qg a : Str} {params : Arguments} {body : Expr} {scope : Scope} {k : Nat} {pn : List (Addr × Obj)} {xe : Value → Shared → Prop} {W : WX} {t : XK → TE} {pa pc : Pos}
    (I : Inv X pins σ H s) (L : LamS X.env.scope scope)
    (lam : s.heap.get? f = some (PySem.W.kla_obj "<lambda>" (X.env.qual ++ "<lambda>") params body scope (cloFrom X.env.cells scope.names []) pm c' ctv)) (nf : H f = none) (nfr : f ∉ frs X.stack)
    (bnd : bindArgs (PySem.W.kla_fn "<lambda>" (X.env.qual ++ "<lambda>") params body scope (cloFrom X.env.cells scope.names []) pm (.ref c') ctv) ⟨[], []⟩ = pure [])
    (tk : Takes ((cxOf C8.CX0 X.prog X.w X.K X.mg X.base Ng qg sg g cdg X.A X.stack s H C8.E0).tr pn xe) W) (hr : Room (k + 1) (X.A.deeper (envOfC qg sg s.heap.objs.size g cdg)))
    (hb : ∀ (A : Around) (outer : List Env) (sB : Shared) (HB : Hp) (Ez : XK), Room k (A.deeper (lamEnv X scope sB.heap.objs.size f c')) → PE (lamCx X A outer sB HB Ez scope f c') body (t Ez))
    (hN : Ng[0]? = some a) (hv : Vis sg a) (hd : (a == ("__debug__" : Str)) = false) (hcd : (a == ("__classdict__" : Str)) = false) :
    PE ((cxOf C8.CX0 X.prog X.w X.K X.mg X.base Ng qg sg g cdg X.A X.stack s H C8.E0).tr pn xe) (.Call (.Name a pa) [] [] pc) (tAct f c' (X.env.qual ++ "<lambda>") (fun Ez Hz Q => t Ez σ Hz Q) W) := by
  refine ⟨fun pz sz σz Hz Q Iz h => ?_⟩
  obtain ⟨hs, hc, Ez, hW, ht⟩ := h
  refine wpAny_Call_Name_kw (thn ((pe_var (pos := pa) (i := 0) hN hv hd hcd).run pz sz σz Hz (fun v Hy => v = .ref f ∧ Hy = Hz) Iz ⟨.ref f, hs, rfl, rfl⟩) fun u sy ⟨v, Hy, Iy, ry, qy⟩ => ?_)
  obtain ⟨rfl, rfl⟩ := qy
  obtain rfl : u = Value.ref f := ry
  have lamY := Iy.base.keep f _ lam nf nfr (fun z => nomatch (show f ∈ ([] : List Addr) from z))
  refine PySem.W.callWith_F0 ⟨_, _, _, _, lamY⟩ ?_
  have un : Un (frs X.stack) [] H Hy s.heap sy.heap := Iy.base
  obtain ⟨⟨oc, vs, tc, hoc, hdc, hvc⟩, _, _⟩ := Iy.hok c' _ hc
  have run : codeAny (model X.prog X.w) (X.A.deeper (envOfC qg sg s.heap.objs.size g cdg)) (.call (.ref f) ⟨[], []⟩)
      (CR (L2.CX X.prog X.w) (envOfC qg sg s.heap.objs.size g cdg :: X.stack) X.prog X.w Hy sy Q Ez) sy := by
    refine PySem.W.kla_callFunE hr.depth lamY rfl L.co L.gen rfl ⟨c', oc, vs, tc, rfl, hoc, hdc, hvc⟩ ?_
    rw [bnd]
    have own1 : ∀ y ∈ scope.names, y.2 ≠ NameKind.cell := fun y hy => (L.own y hy).2
    refine wpAny_pure (wpAny_newFunctionEnv own1 (fun y hy => absurd hy (by simp)) (fun hB nsB sb => ⟨Iy.nolimit.fresh _ sb, ?_⟩) L.kind)
    show codeAny _ _ (.expr body (lamEnv X scope sy.heap.objs.size f c')) _ _
    have kp : ∀ b o, sy.heap.get? b = some o → hB.get? b = some o := fun b o e => sb.extBut b o (Nat.ne_of_lt (Heap.lt_size e)) (Heap.get?_push_of_some _ e)
    have J := lam_start2 (f := f) (c' := c') (E := Ez) (tk := sy.toks + ([] : List (Str × Value)).length) I L Iy.env0 hr.hd un nsB kp
    refine PySem.W.kla_codeExpr (wpAny_mono ((hb _ _ sy Hy Ez (hr.deeper _)).run [] _ _ Hy Q J ht) (fun v sx hq => ?_) fun e sx hq => hq)
    obtain ⟨vv, Hx, Jx, rv, q⟩ := hq
    exact ⟨vv, Hx, Jx.os, Jx.bare, Jx.base, Jx.hok, rv, q⟩
  refine wpAny_call (codeAny_mono run fun r sx hq => ?_)
  cases r with
  | error e => exact tk e sx (XE.of_call Iy (fun cls d Hx hE => hW cls d Hx hE) hq)
  | ok fl =>
    cases fl with
    | ret u => exact Iy.after hq
    | next => exact False.elim hq
    | brk => exact False.elim hq
    | cont => exact False.elim hq
end
/-- the def that calls what it got (its first parameter a); TT: what it makes of the lambda's reading -/
def Gives (X : Cx) (Ng : List Str) (x : Str) (sg : Scope) (g : Addr) (cdg : Value) (bg : List Stmt) (a q : Str) (TT : (XK → Hp → VK → Prop) → Hp → VK → Prop) : Prop :=
  ∀ (f c' : Addr) (s : Shared) (H : Hp) (Q : VK) (tl : XK → Hp → VK → Prop), Room 9 (X.A.deeper (envOfC x sg s.heap.objs.size g cdg)) →
    (∀ (W : WX) (pn : List (Addr × Obj)) (xe : Value → Shared → Prop) (pa pc : Pos), Takes ((cxOf C8.CX0 X.prog X.w X.K X.mg X.base Ng x sg g cdg X.A X.stack s H C8.E0).tr pn xe) W →
      PE ((cxOf C8.CX0 X.prog X.w X.K X.mg X.base Ng x sg g cdg X.A X.stack s H C8.E0).tr pn xe) (.Call (.Name a pa) [] [] pc) (tAct f c' q tl W)) →
    H c' = some (CodeO c' q) → TT tl H Q →
    ∃ t, PSs (cxOf C8.CX0 X.prog X.w X.K X.mg X.base Ng x sg g cdg X.A X.stack s H C8.E0) bg t ∧ t { nx := fun _ H' => Q .non H', rt := Q } (L2.start Ng [.ref f]) H
section
variable {X : Cx}
/-- x(lambda: body) -/
theorem pe_give {T : List (Addr × Str)} {TT : (XK → Hp → VK → Prop) → Hp → VK → Prop} {x a : Str} {g c P : Addr} {k : Nat} {pg : Arguments} {bg : List Stmt} {sg : Scope} {dV kV doc pm cdv ct oc : Value} {an od : Option Addr} {osl : Array (Option Value)} {Ng : List Str}
    {params : Arguments} {body : Expr} {scope : Scope} {t : XK → TE} {p lpos pos : Pos} (hg : Gl X x) (hm : X.mg x = some (.ref g)) (hk : PySem.W.keepIn X.K (.ref g) = true)
    (lk : X.K.lookup g = some ⟨oc, od, .func (PySem.W.fnOf x x pg bg sg dV kV doc pm an cdv ct), osl⟩) (hcg : PySem.W.codeIn X.K cdv x = true) (hbi : L2.Binds X.K (PySem.W.fnOf x x pg bg sg dV kV doc pm an cdv ct) [a] [])
    (Sg : FnScope Ng [a] sg) (hNg : Ng[0]? = some a) (hva : Vis sg a) (hG : Gives X Ng x sg g cdv bg a (X.env.qual ++ "<lambda>") TT)
    (TB : TabB X.base X.mg c P) (hcode : X.env.code = .ref c) (hmT : (P, X.env.qual ++ "<lambda>") ∈ T) (hu : ∀ p ∈ T, p.1 = P → p.2 = X.env.qual ++ "<lambda>") (hr : Room (k + 2) X.A) (h9 : 9 ≤ k + 1) (L : LamS X.env.scope scope) (hdef : defaultsOf params X.env = ([], []))
    (bnd : ∀ (q : Str) (cl : List (Str × Addr)) (pm cv ctv : Value), bindArgs (PySem.W.kla_fn "<lambda>" q params body scope cl pm cv ctv) ⟨[], []⟩ = pure [])
    (hb : ∀ (A : Around) (outer : List Env) (s : Shared) (H : Hp) (E : XK) (f c' : Addr), Room k (A.deeper (lamEnv X scope s.heap.objs.size f c')) → PE (lamCx X A outer s H E scope f c') body (t E))
    (hdb : (x == ("__debug__" : Str)) = false := by decide) (hd : (a == ("__debug__" : Str)) = false := by decide) (hcd : (a == ("__classdict__" : Str)) = false := by decide) :
    PE X (.Call (.Name x p) [.Lambda params body scope lpos] [] pos) (tLam T TT t) := by
  refine ⟨fun pins s σ H Q I h => ?_⟩
  obtain ⟨hT, go⟩ := h
  refine wpAny_Call_Name_kw (ld_glob I hg hm ?_ hdb)
  refine PySem.W.callWith_K (h₀ := X.base) I.ok.mod.kin hk ?_ (by rfl) (by rfl)
  show wpAny _ _ (spliced ((false, eval (.Lambda params body scope lpos) X.env) :: backTo pos (starEach [] X.env))) _ _ s
  refine Calls.spliced_cons (lam_make2 I TB hcode hmT hu hT hdef (L.has I.ok) fun f c' pm' ctv Hy sy Iy eN Ty lamY nf nfr hco => ?_)
  refine Calls.spliced_nil ⟨Iy.kIn, ?_⟩
  have run : codeAny (model X.prog X.w) X.A (.call (.ref g) ⟨[.ref f], []⟩) (CR C8.CX0 X.stack X.prog X.w Hy sy Q C8.E0) sy := by
    refine run_ofS (N := Ng) (ps := [a]) (us := [.ref f]) (vs := [.ref f]) lk hcg Sg hr Iy.env0 (hbi sy [.ref f] Iy.kIn rfl) (.cons rfl .nil) rfl fun hr' => ?_
    exact hG f c' sy Hy Q (fun E Hz Q' => t E σ Hz Q') (hr'.mono h9) (fun W pn xe pa pc tk => pe_call_lam Iy L lamY nf nfr (bnd _ _ _ _ _) tk hr' (fun A outer s H E hr2 => hb A outer s H E f c' hr2) hNg hva hd hcd) hco (go Hy eN Ty)
  refine wpAny_call (codeAny_mono run fun r sx hq => ?_)
  cases r with
  | error e => exact (show False from hq).elim
  | ok fl =>
    cases fl with
    | ret u => exact Iy.after hq
    | next => exact False.elim hq
    | brk => exact False.elim hq
    | cont => exact False.elim hq
end
end Ru

set_option maxHeartbeats 4000000
/-! a lambda (no parameter, or one with a default) as a value: made, kept in a list, called by a def that gets it, also from a comprehension -/
namespace Ru
open PySem PySem.Spec PyProof.Rows L2 LamX
theorem sameU {H : Hp} {p : Addr} {o : HO} (h : H p = none) : Same H (upd H p o) := fun b u e => by rw [upd_ne (ne_of_none e h)]; exact e
/-- the lambda that stands at f -/
def LamO (q : Str) (params : Arguments) (body : Expr) (scope : Scope) (cl : List (Str × Addr)) (dV : Value) (c' f : Addr) : HO :=
  .ext fun h => ∃ doc pm ctv : Value, h.get? f = some (PySem.W.kdv_obj "<lambda>" q params (.expr body) scope cl dV doc pm c' ctv)
/-- its defaults -/
def DflH (H : Hp) (dV : Value) (ds : List V) : Prop := (ds = [] ∧ dV = .none) ∨ (ds ≠ [] ∧ ∃ T : Addr, dV = .ref T ∧ H T = some (.tup ds))
def LamAt (X : Cx) (H : Hp) (f : Addr) (params : Arguments) (body : Expr) (scope : Scope) (ds : List V) : Prop :=
  ∃ (c' : Addr) (dV : Value), H f = some (LamO (X.env.qual ++ "<lambda>") params body scope (cloFrom X.env.cells scope.names []) dV c' f) ∧ H c' = some (CodeO c' (X.env.qual ++ "<lambda>")) ∧ DflH H dV ds
theorem lamO_ne {q : Str} {params : Arguments} {body : Expr} {scope : Scope} {cl : List (Str × Addr)} {dV : Value} {c' f : Addr} (ps : Array Value) : LamO q params body scope cl dV c' f ≠ .tbl ps := fun z => by
  unfold LamO at z
  cases z
theorem LamAt.ext {X : Cx} {H H' : Hp} {f : Addr} {params : Arguments} {body : Expr} {scope : Scope} {ds : List V} (h : LamAt X H f params body scope ds) (e : ExtN H H') : LamAt X H' f params body scope ds := by
  obtain ⟨c', dV, h1, h2, h3⟩ := h
  refine ⟨c', dV, e _ _ h1 lamO_ne, e _ _ h2 codeO_ne, ?_⟩
  rcases h3 with h3 | ⟨h0, T, h3, h4⟩
  · exact .inl h3
  · exact .inr ⟨h0, T, h3, e _ _ h4 fun ps z => nomatch z⟩
theorem LamAt.same {X : Cx} {H H' : Hp} {f : Addr} {params : Arguments} {body : Expr} {scope : Scope} {ds : List V} (h : LamAt X H f params body scope ds) (e : Same H H') : LamAt X H' f params body scope ds := h.ext (ExtN.of e)
/-! ### making -/
section
variable {X : Cx} {pins : List (Addr × Obj)} {σ : L2.St} {H : Hp} {s : Shared}
theorem lam_tail {T : List (Addr × Str)} {c P : Addr} {params : Arguments} {body : Expr} {scope : Scope} {pos : Pos} {E : Value → Shared → Prop} {Q : Value → Shared → Prop} {dV : Value} {ds : List V} {fl : Nat} (I : Inv X pins σ H s) (TB : TabB X.base X.mg c P) (hcode : X.env.code = .ref c)
    (hm : (P, X.env.qual ++ "<lambda>") ∈ T) (hu : ∀ p ∈ T, p.1 = P → p.2 = X.env.qual ++ "<lambda>") (hT : Tabs T H) (hfree : ∀ y ∈ scope.names, y.2 = .free → ∃ c, X.env.cells.lookup y.1 = some c) (hd : DflH H dV ds)
    (h : ∀ (f : Addr) (H1 : Hp) (s' : Shared), Inv X pins σ H1 s' → ExtN H H1 → Tabs T H1 → H f = none → LamAt X H1 f params body scope ds → Q (.ref f) s') :
    wpAny (model X.prog X.w) X.A (makeTail "<lambda>" (X.env.qual ++ "<lambda>") params (.expr body) scope X.env dV .none none pos fl) Q E s := by
  obtain ⟨ps, hP, ht, ha⟩ := hT _ hm
  have bP : s.heap.BuiltinsAt X.mg P := TB.bm.keeps I.bk
  have hP' : s.heap.get? P = some { cls := .none, data := .fields ps } := I.hok P _ hP
  -- the object is laid and tracked
  have fin : ∀ (H1 : Hp) (h' : Heap) (tk : Nat) (c' : Addr) (doc ctv : Value), Inv X pins σ H1 { s with heap := h', toks := tk } → ExtN H H1 → Tabs T H1 → s.heap.objs.size ≤ h'.objs.size → H1 c' = some (CodeO c' (X.env.qual ++ "<lambda>")) →
      Q (.ref h'.objs.size) { s with heap := h'.push (PySem.W.kdv_obj "<lambda>" (X.env.qual ++ "<lambda>") params (.expr body) scope (cloFrom X.env.cells scope.names []) dV doc ((X.mg "__name__").getD .none) c' ctv), toks := tk } := fun H1 h' tk c' doc ctv I1 eN T1 hz hc => by
    have hf1 : H1 h'.objs.size = none := I1.hok.fresh (Nat.le_refl _)
    have sm : Same H1 (upd H1 h'.objs.size (LamO (X.env.qual ++ "<lambda>") params body scope (cloFrom X.env.cells scope.names []) dV c' h'.objs.size)) := sameU hf1
    have I2 := I1.laid (a := h'.objs.size) (o := LamO (X.env.qual ++ "<lambda>") params body scope (cloFrom X.env.cells scope.names []) dV c' h'.objs.size) (t' := tk)
      (h' := h'.push (PySem.W.kdv_obj "<lambda>" (X.env.qual ++ "<lambda>") params (.expr body) scope (cloFrom X.env.cells scope.names []) dV doc ((X.mg "__name__").getD .none) c' ctv))
      (fun b o e => Heap.get?_push_of_some _ e) (Nat.le_refl _) ⟨⟨doc, _, ctv, Heap.get?_push_size _ rfl⟩, ⟨_, Heap.get?_push_size _ rfl⟩, fun h1 h2 ⟨a, b, c, e⟩ st => ⟨a, b, c, st _ e⟩⟩
    refine h h'.objs.size _ _ I2 (eN.trans (ExtN.of sm)) (T1.ext sm) (I.hok.fresh hz) ⟨c', dV, upd_same, sm _ _ hc, ?_⟩
    rcases hd with z | ⟨z0, Td, z1, z2⟩
    · exact .inl z
    · exact .inr ⟨z0, Td, z1, sm _ _ (eN _ _ z2 fun ps z => nomatch z)⟩
  cases hc : codeAmong pos ps.toList with
  | none =>
    refine PySem.W.kdv_makeTail (mg := X.mg) (c := c) (P := P) (ps := ps) (closure_ok hfree) I.ok.glob (I.mod.glob.keeps I.bk) hcode (TB.code.keeps I.bk) hP' ht hc TB.gP bP fun c' ctv doc h' tk hx hge hlt hrec htb => ?_
    obtain ⟨c2, oc, vs, t, e2, hoc, hdd, hv⟩ := hrec
    cases e2
    have hsz : s.heap.objs.size ≤ h'.objs.size := Nat.le_trans hge (Nat.le_of_lt hlt)
    have nC : H c' = none := I.hok.fresh hge
    have I1 := inv_table (t' := tk) (more := #[rawInt pos.line, rawInt pos.col, .ref c']) (h' := h') I hP (fun b o hb e => hx b o hb e) htb hge ⟨oc, vs, t, hoc, hdd, hv⟩
    have hE : ExtN H (upd (upd H P (.tbl (ps ++ #[rawInt pos.line, rawInt pos.col, .ref c']))) c' (CodeO c' (X.env.qual ++ "<lambda>"))) := fun b o e n => by
      rw [upd_ne (ne_of_none e nC), upd_ne (fun z => n ps (Option.some.inj (e.symm.trans (by rw [z]; exact hP))))]
      exact e
    have eL : (ps ++ #[rawInt pos.line, rawInt pos.col, .ref c']).toList = ps.toList ++ [rawInt pos.line, rawInt pos.col, .ref c'] := by simp
    refine fin _ h' tk c' doc ctv I1 hE (fun p hp => ?_) hsz upd_same
    by_cases hb : p.1 = P
    · rw [hu p hp hb, hb]
      refine ⟨_, by rw [upd_ne (ne_of_none hP nC), upd_same], by rw [eL]; exact PySem.TriplesOk_snoc _ _ _ _ ht, fun p' cv hcv => ?_⟩
      rw [eL] at hcv
      rcases among_app _ ht hcv with z | z
      · obtain ⟨c0, e1, e2⟩ := ha p' cv z
        exact ⟨c0, e1, hE _ _ e2 codeO_ne⟩
      · exact ⟨c', z, upd_same⟩
    · obtain ⟨ps', a1, a2, a3⟩ := hT p hp
      refine ⟨ps', by rw [upd_ne (ne_of_none a1 nC), upd_ne hb]; exact a1, a2, fun p' cv hcv => ?_⟩
      obtain ⟨c0, e1, e2⟩ := a3 p' cv hcv
      exact ⟨c0, e1, hE _ _ e2 codeO_ne⟩
  | some cv =>
    obtain ⟨c', e, hco⟩ := ha pos cv hc
    subst e
    refine PySem.W.kdv_makeTailHit (mg := X.mg) (c := c) (P := P) (ps := ps) (closure_ok hfree) I.ok.glob (I.mod.glob.keeps I.bk) hcode (TB.code.keeps I.bk) hP' ht hc bP fun ctv doc h' tk hx hsz => ?_
    exact fin H h' tk c' doc ctv (I.kept fun b o e => hx b o e) (ExtN.refl H) hT hsz hco
end
/-- a lambda's reading as a value -/
def tLamV (T : List (Addr × Str)) (X : Cx) (params : Arguments) (body : Expr) (scope : Scope) (ds : List V) : TE := fun _ H Q =>
  Tabs T H ∧ ∀ (f : Addr) (H1 : Hp), ExtN H H1 → Tabs T H1 → H f = none → LamAt X H1 f params body scope ds → Q (.ref f) H1
/-- captured names and globals; its own parameters are no names of the def -/
structure LamS2 (N : List Str) (sc scope : Scope) : Prop where
  kind : scope.kind = .function
  co : scope.isCoroutine = false
  gen : scope.isGenerator = false
  own : ∀ y ∈ scope.names, y.2 ≠ .cell ∧ (y.2 = .local → y.1 ∉ N)
  free : ∀ y ∈ scope.names, y.2 = .free → sc.names.lookup y.1 = some .cell ∨ sc.names.lookup y.1 = some .free
def lamSB2 (N : List Str) (sc scope : Scope) : Bool :=
  decide (scope.kind = .function) && !scope.isCoroutine && !scope.isGenerator && scope.names.all fun y => !decide (y.2 = .cell) && (!decide (y.2 = .local) || decide (y.1 ∉ N)) && (!decide (y.2 = .free) || decide (sc.names.lookup y.1 = some .cell) || decide (sc.names.lookup y.1 = some .free))
theorem lamS2_by {N : List Str} {sc scope : Scope} (h : lamSB2 N sc scope = true) : LamS2 N sc scope := by
  unfold lamSB2 at h
  simp only [Bool.and_eq_true, Bool.or_eq_true, Bool.not_eq_true', decide_eq_true_eq, decide_eq_false_iff_not, List.all_eq_true] at h
  obtain ⟨⟨⟨h1, h2⟩, h3⟩, h4⟩ := h
  refine ⟨h1, h2, h3, fun y hy => ⟨(h4 y hy).1.1, fun e => ?_⟩, fun y hy e => ?_⟩
  · rcases (h4 y hy).1.2 with z | z
    · exact absurd e z
    · exact z
  · rcases (h4 y hy).2 with (z | z) | z
    · exact absurd e z
    · exact .inl z
    · exact .inr z
theorem LamS2.has {X : Cx} {scope : Scope} (L : LamS2 X.N X.env.scope scope) (hs : ∀ x, (X.env.kindOf x = some .cell ∨ X.env.kindOf x = some .free) → ∃ c, X.env.cells.lookup x = some c) : ∀ y ∈ scope.names, y.2 = .free → ∃ c, X.env.cells.lookup y.1 = some c := fun y hy e => by
  rcases L.free y hy e with k | k
  · exact hs _ (.inl k)
  · exact hs _ (.inr k)
section
variable {X : Cx}
theorem pe_lam0 {T : List (Addr × Str)} {c P : Addr} {params : Arguments} {body : Expr} {scope : Scope} {pos : Pos} (TB : TabB X.base X.mg c P) (hcode : X.env.code = .ref c) (hm : (P, X.env.qual ++ "<lambda>") ∈ T) (hu : ∀ p ∈ T, p.1 = P → p.2 = X.env.qual ++ "<lambda>")
    (L : LamS2 X.N X.env.scope scope) (hdef : defaultsOf params X.env = ([], [])) : PE X (.Lambda params body scope pos) (tLamV T X params body scope []) := by
  refine ⟨fun pins s σ H Q I h => ?_⟩
  obtain ⟨hT, h⟩ := h
  refine PySem.W.kla_eval hdef ?_
  rw [makeFunction_eq]
  simp only [List.zip_nil_right, List.filterMap_nil, List.isEmpty_nil, if_true, pure_bind]
  exact lam_tail I TB hcode hm hu hT (L.has I.ok.has) (.inl ⟨rfl, rfl⟩) fun f H1 s' I1 eN T1 hf la => ⟨.ref f, H1, I1, rfl, h f H1 eN T1 hf la⟩
theorem pe_lam1 {T : List (Addr × Str)} {c P : Addr} {params : Arguments} {body : Expr} {scope : Scope} {pos : Pos} {e : Expr} {d : V} (TB : TabB X.base X.mg c P) (hcode : X.env.code = .ref c) (hm : (P, X.env.qual ++ "<lambda>") ∈ T) (hu : ∀ p ∈ T, p.1 = P → p.2 = X.env.qual ++ "<lambda>")
    (L : LamS2 X.N X.env.scope scope) (hd : params.defaults = [e]) (hk : params.kw_defaults = []) (he : PE X e (tC d)) : PE X (.Lambda params body scope pos) (tLamV T X params body scope [d]) := by
  refine ⟨fun pins s σ H Q I h => ?_⟩
  obtain ⟨hT, h⟩ := h
  refine PySem.W.kdv_lam (by rw [hd]; rfl) hk ?_
  rw [hd]
  refine PySem.W.kdv_all1 (thn (he.run pins s σ H (fun v H1 => v = d ∧ H1 = H) I ⟨rfl, rfl⟩) fun u s1 ⟨v, H1, I1, r1, q1⟩ => PySem.W.kdv_all0 ?_)
  obtain ⟨rfl, rfl⟩ := q1
  rw [makeFunction_eq]
  simp only [List.zip_nil_right, List.filterMap_nil, List.isEmpty_nil, if_true, pure_bind, List.isEmpty_cons, Bool.false_eq_true, if_false]
  refine wpAny_bind (wpAny_newTextTuple ?_)
  have hf1 : H1 s1.heap.objs.size = none := I1.hok.fresh (Nat.le_refl _)
  have sm : Same H1 (upd H1 s1.heap.objs.size (.tup [v])) := sameU hf1
  have I2 : Inv X pins σ (upd H1 s1.heap.objs.size (.tup [v])) { s1 with heap := s1.heap.push { cls := .type "tuple", data := .seq [u].toArray } } :=
    I1.laid (t' := s1.toks) (fun b o e => Heap.get?_push_of_some _ e) (Nat.le_refl _) ⟨by show 1 ≤ sizeLine; decide, [u], .cons r1 .nil, _, Heap.get?_push_size _ rfl, rfl, _, rfl⟩
  refine lam_tail I2 TB hcode hm hu (hT.ext sm) (L.has I.ok.has) (.inr ⟨List.cons_ne_nil _ _, _, rfl, upd_same⟩) fun f H2 s' J eN T2 hf la => ⟨.ref f, H2, J, rfl, h f H2 ((ExtN.of sm).trans eN) T2 ?_ la⟩
  exact sm.free hf
end
/-! ### the names a lambda captures -/
structure CellsAt (X : Cx) (σ : L2.St) (H : Hp) (h : Heap) : Prop where
  inj : ∀ x y c, X.env.cells.lookup x = some c → X.env.cells.lookup y = some c → x = y
  has : ∀ x, (X.env.kindOf x = some .cell ∨ X.env.kindOf x = some .free) → ∃ c, X.env.cells.lookup x = some c
  cell : ∀ x c, X.env.cells.lookup x = some c → (∃ v, h.IsCell c v) ∧ H c = none
  val : ∀ (i : Nat) (x : Str) (v : V), X.N[i]? = some x → σ[i]? = some (some v) → (X.env.scope.names.lookup x = some .cell ∨ X.env.scope.names.lookup x = some .free) → ∃ u c, RelV v u ∧ X.env.cells.lookup x = some c ∧ h.IsCell c (some u)
  len : σ.length = X.N.length
theorem CellsAt.of {X : Cx} {pins : List (Addr × Obj)} {σ : L2.St} {H : Hp} {s : Shared} (I : Inv X pins σ H s) : CellsAt X σ H s.heap := by
  refine ⟨I.ok.inj, I.ok.has, fun x c e => ⟨I.cell x c e, I.freeC x c e⟩, fun i x v e1 e2 k => ?_, I.len⟩
  obtain ⟨m, hn, hl⟩ := I.loc
  obtain ⟨u, r, l⟩ := hl i x v e1 e2 (k.elim (fun z => .inr (.inl z)) fun z => .inr (.inr z))
  rcases l with ⟨k', _⟩ | ⟨_, c, e', z⟩
  · have k' : X.env.scope.names.lookup x = some .local := k'
    rcases k with k | k <;> rw [k] at k' <;> cases k'
  · exact ⟨u, c, r, e', z⟩
theorem CellsAt.un {X : Cx} {σ : L2.St} {H H' : Hp} {h h' : Heap} {fs ex : List Addr} (C : CellsAt X σ H h) (un : Un fs ex H H' h h') (hex : ∀ x c, X.env.cells.lookup x = some c → c ∉ ex) : CellsAt X σ H' h' := by
  have ck : ∀ x c v, X.env.cells.lookup x = some c → h.IsCell c v → h'.IsCell c v := fun x c v e ⟨o, ho, hd⟩ => by
    obtain ⟨sl, q⟩ := un.any ho (C.cell x c e).2 (hex x c e)
    exact ⟨_, q, hd⟩
  refine ⟨C.inj, C.has, fun x c e => ?_, fun i x v e1 e2 k => ?_, C.len⟩
  · obtain ⟨⟨v, z⟩, n⟩ := C.cell x c e
    refine ⟨⟨v, ck x c v e z⟩, ?_⟩
    obtain ⟨o, ho, _⟩ := z
    exact un.free c o ho n (hex x c e)
  · obtain ⟨u, c, r, e, z⟩ := C.val i x v e1 e2 k
    exact ⟨u, c, r, e, ck x c _ e z⟩
section
variable {X : Cx} {σ : L2.St} {HZ : Hp} {s1 : Shared}
theorem lam_start3 {A : Around} {outer : List Env} {E : XK} {scope : Scope} {f c' : Addr} {h₁ : Heap} {tk : Nat} {binds : List (Str × Value)} (C : CellsAt X σ HZ s1.heap) (L : LamS2 X.N X.env.scope scope) (e0 : Env0 X.prog X.w X.K X.mg X.base A outer s1 HZ) (hd : A.handled = none)
    (hns : h₁.Ns s1.heap.objs.size fun y => binds.reverse.lookup y) (kp : ∀ b o, s1.heap.get? b = some o → h₁.get? b = some o) :
    Inv (lamCx X A outer s1 HZ E scope f c') [] σ HZ { s1 with heap := h₁, toks := tk } := by
  have hfree := L.has C.has
  have cm : ∀ {y c}, (cloFrom X.env.cells scope.names []).lookup y = some c → X.env.cells.lookup y = some c := fun {y c} e => by
    rcases cloFrom_mem (PySem.mem_of_lookup e) with hm | ⟨h1, h2⟩
    · cases hm
    · obtain ⟨c1, hc⟩ := hfree _ h1 rfl
      have hc : X.env.cells.lookup y = some c1 := hc
      have e2 : c = c1 := by
        rw [h2, hc] <;> rfl
      rw [e2]
      exact hc
  have look : ∀ {y}, scope.names.lookup y = some .free → ∃ c, (cloFrom X.env.cells scope.names []).lookup y = some c := fun {y} hl => by
    have hy : (y, NameKind.free) ∈ scope.names := PySem.mem_of_lookup hl
    exact mem_lookup (cloFrom_has (cells := X.env.cells) (acc := []) hy)
  have cellK : ∀ {c : Addr} {v : Option Value}, s1.heap.IsCell c v → h₁.IsCell c v := fun {c v} ⟨o, ho, hd⟩ => ⟨_, kp _ _ ho, hd⟩
  have noA : ∀ b : Addr, b ∉ (lamCx X A outer s1 HZ E scope f c').ex := fun b z => absurd (show b ∈ ([] : List Addr) from z) (by simp)
  refine ⟨⟨e0.mod, L.kind, rfl, rfl, Nat.le_refl _, fun y z c e1 e2 => C.inj y z c (cm e1) (cm e2), fun y hy => ?_, fun y c z _ => ?_, fun _ => hd, Around.frames_deeper e0.frames, .inr ⟨rfl, rfl⟩, fun b z => absurd z (noA b), e0.bs, e0.bsz, fun b _ _ => noA b,
      fun b z => absurd z (noA b), e0.funs, e0.frf⟩,
    rfl, e0.bare, Un.kept kp, ⟨_, hns, fun i y v e1 e2 e3 => ?_⟩, fun y c e => ?_, e0.hok.fresh (Nat.le_refl _), fun y c e => ?_, fun q hq => absurd (show q ∈ ([] : List (Addr × Obj)) ++ [] from hq) (by simp), e0.hok.kept kp, C.len⟩
  · have hy : scope.names.lookup y = some .cell ∨ scope.names.lookup y = some .free := hy
    rcases hy with hy | hy
    · exact absurd rfl (L.own _ (PySem.mem_of_lookup hy)).1
    · exact look hy
  · have z : false = true := z
    cases z
  · have e3 : Vis scope y := e3
    rcases e3 with k | k | k
    · exact absurd (List.mem_of_getElem? e1) ((L.own _ (PySem.mem_of_lookup k)).2 rfl)
    · exact absurd rfl (L.own _ (PySem.mem_of_lookup k)).1
    · obtain ⟨w', c1, r, h1, z⟩ := C.val i y v e1 e2 (L.free _ (PySem.mem_of_lookup k) rfl)
      obtain ⟨c2, h2⟩ := look k
      refine ⟨w', r, .inr ⟨.inr k, c2, h2, ?_⟩⟩
      have c3 := cm h2
      rw [h1] at c3
      cases c3
      exact cellK z
  · obtain ⟨⟨w', z⟩, _⟩ := C.cell y c (cm e)
    exact ⟨w', cellK z⟩
  · exact (C.cell y c (cm e)).2
end
/-! ### calling -/
/-- what the call f() binds -/
def LamBnd (params : Arguments) (body : Expr) (scope : Scope) (ds : List V) : Prop :=
  ∀ (q : Str) (cl : List (Str × Addr)) (doc pm cv ctv dV : Value) (s : Shared), ((ds = [] ∧ dV = .none) ∨ (ds ≠ [] ∧ ∃ (T : Addr) (o : Obj) (its : List Value) (n : Nat), dV = .ref T ∧ s.heap.get? T = some o ∧ o.data = .seq its.toArray n ∧ Vals ds its)) →
    ∃ binds, BindsTo s (PySem.W.kdv_fn "<lambda>" q params (.expr body) scope cl dV doc pm cv ctv) ⟨[], []⟩ binds ∧ ∀ y ∈ binds, scope.names.lookup y.1 = some .local
theorem lamB0 {params : Arguments} {body : Expr} {scope : Scope} (h : ∀ (q : Str) (cl : List (Str × Addr)) (doc pm cv ctv : Value), bindArgs (PySem.W.kdv_fn "<lambda>" q params (.expr body) scope cl .none doc pm cv ctv) ⟨[], []⟩ = pure []) : LamBnd params body scope [] := by
  intro q cl doc pm cv ctv dV s hd
  rcases hd with ⟨_, rfl⟩ | ⟨e, _⟩
  · exact ⟨[], .of_eq (h _ _ _ _ _ _), fun y hy => by cases hy⟩
  · exact absurd rfl e
theorem lamB1 {params : Arguments} {body : Expr} {scope : Scope} {a : Str} {d : V} (hl : scope.names.lookup a = some .local)
    (h : ∀ (q : Str) (cl : List (Str × Addr)) (T : Addr) (doc pm cv ctv u : Value), ∃ k, bindArgs (PySem.W.kdv_fn "<lambda>" q params (.expr body) scope cl (.ref T) doc pm cv ctv) ⟨[], []⟩ = seqItems? (.ref T) >>= k ∧ k (some #[u]) = pure [(a, u)]) : LamBnd params body scope [d] := by
  intro q cl doc pm cv ctv dV s hd
  rcases hd with ⟨e, _⟩ | ⟨_, T, o, its, n, rfl, ho, hdd, r⟩
  · cases e
  · obtain ⟨u, rfl, _⟩ := r.one
    obtain ⟨k, h1, h2⟩ := h q cl T doc pm cv ctv u
    refine ⟨[(a, u)], .of_defaults rfl ho hdd h1 h2, fun y hy => ?_⟩
    rcases List.mem_singleton.mp hy with rfl
    exact hl
/-- what is known of a lambda's body -/
structure LamB (X : Cx) (k : Nat) (params : Arguments) (body : Expr) (scope : Scope) (ds : List V) (t : XK → TE) : Prop where
  L : LamS2 X.N X.env.scope scope
  bnd : LamBnd params body scope ds
  pe : ∀ (A : Around) (outer : List Env) (s : Shared) (H : Hp) (E : XK) (f c' : Addr), Room k (A.deeper (lamEnv X scope s.heap.objs.size f c')) → PE (lamCx X A outer s H E scope f c') body (t E)
end Ru

set_option maxHeartbeats 4000000
/-! calls of lambdas that are values: by a def that gets one; a comprehension whose element calls such a def -/
namespace Ru
open PySem PySem.Spec PyProof.Rows L2 LamX
/-- the call of the lambda at f -/
theorem lam_run {X : Cx} {A : Around} {outer : List Env} {s : Shared} {H : Hp} {σ : L2.St} {f : Addr} {params : Arguments} {body : Expr} {scope : Scope} {ds : List V} {t : XK → TE} {k : Nat} {E : XK} {Q : VK}
    (e0 : Env0 X.prog X.w X.K X.mg X.base A outer s H) (C : CellsAt X σ H s.heap) (la : LamAt X H f params body scope ds) (B : LamB X k params body scope ds t) (hr : Room (k + 1) A) (h : t E σ H Q) :
    codeAny (model X.prog X.w) A (.call (.ref f) ⟨[], []⟩) (CR (L2.CX X.prog X.w) outer X.prog X.w H s Q E) s := by
  obtain ⟨c', dV, hf, hc, hd⟩ := la
  obtain ⟨⟨doc, pm, ctv, lam⟩, _, _⟩ := e0.hok f _ hf
  obtain ⟨⟨oc, vs, tc, hoc, hdc, hvc⟩, _, _⟩ := e0.hok c' _ hc
  have lim : s.heap.NoLimit := e0.mod.nolimit.keeps fun b o e => (e0.bs b o e).1
  have hd' : (ds = [] ∧ dV = .none) ∨ (ds ≠ [] ∧ ∃ (T : Addr) (o : Obj) (its : List Value) (n : Nat), dV = .ref T ∧ s.heap.get? T = some o ∧ o.data = .seq its.toArray n ∧ Vals ds its) := by
    rcases hd with z | ⟨z0, T, z1, z2⟩
    · exact .inl z
    · obtain ⟨_, its, r, o, ho, _, n, hn⟩ := e0.hok T _ z2
      exact .inr ⟨z0, T, o, its, n, z1, ho, hn, r⟩
  obtain ⟨binds, hb, hloc⟩ := B.bnd (X.env.qual ++ "<lambda>") (cloFrom X.env.cells scope.names []) doc pm (.ref c') ctv dV s hd'
  refine PySem.W.kla_callFunE hr.depth lam rfl B.L.co B.L.gen rfl ⟨c', oc, vs, tc, rfl, hoc, hdc, hvc⟩ (hb _ _ _ _ ?_)
  refine wpAny_newFunctionEnv (fun y hy => (B.L.own y hy).1) hloc (fun hB nsB sb => ⟨lim.fresh _ sb, ?_⟩) B.L.kind
  show codeAny _ _ (.expr body (lamEnv X scope s.heap.objs.size f c')) _ _
  have kp : ∀ b o, s.heap.get? b = some o → hB.get? b = some o := fun b o e => sb.extBut b o (Nat.ne_of_lt (Heap.lt_size e)) (Heap.get?_push_of_some _ e)
  have J := lam_start3 (f := f) (c' := c') (E := E) (tk := s.toks + binds.length) C B.L e0 hr.hd nsB kp
  refine PySem.W.kla_codeExpr (wpAny_mono ((B.pe _ _ s H E f c' (hr.deeper _)).run [] _ _ H Q J h) (fun v sx hq => ?_) fun e sx hq => hq)
  obtain ⟨vv, Hx, Jx, rv, q⟩ := hq
  exact ⟨vv, Hx, Jx.os, Jx.bare, Jx.base, Jx.hok, rv, q⟩
/-- a() in the def that got f as its first parameter: what the try around takes may rest on the state at the call -/
def tAct2 (f : Addr) (H : Hp) (tl : XK → Hp → VK → Prop) (W : WX) : TE := fun σz Hz Q =>
  σz[0]? = some (some (.ref f)) ∧ Same H Hz ∧ ∃ Ez : XK, (∀ cls d Hy, Ez cls d Hy → W cls d σz Hy) ∧ tl Ez Hz Q
section
variable {X : Cx}
theorem pe_act2 {sg : Scope} {g : Addr} {cdg : Value} {Ng : List Str} {qg a : Str} {s : Shared} {H : Hp} {σ : L2.St} {f : Addr} {params : Arguments} {body : Expr} {scope : Scope} {ds : List V} {k : Nat} {pn : List (Addr × Obj)} {xe : Value → Shared → Prop} {W : WX} {t : XK → TE} {pa pc : Pos}
    (C : CellsAt X σ H s.heap) (la : LamAt X H f params body scope ds) (B : LamB X k params body scope ds t)
    (tk : Takes ((cxOf C8.CX0 X.prog X.w X.K X.mg X.base Ng qg sg g cdg X.A X.stack s H C8.E0).tr pn xe) W) (hr : Room (k + 1) (X.A.deeper (envOfC qg sg s.heap.objs.size g cdg)))
    (hN : Ng[0]? = some a) (hv : Vis sg a) (hd : (a == ("__debug__" : Str)) = false) (hcd : (a == ("__classdict__" : Str)) = false) :
    PE ((cxOf C8.CX0 X.prog X.w X.K X.mg X.base Ng qg sg g cdg X.A X.stack s H C8.E0).tr pn xe) (.Call (.Name a pa) [] [] pc) (tAct2 f H (fun Ez Hz Q => t Ez σ Hz Q) W) := by
  refine ⟨fun pz sz σz Hz Q Iz h => ?_⟩
  obtain ⟨hs, sm, Ez, hW, ht⟩ := h
  refine wpAny_Call_Name_kw (thn ((pe_var (pos := pa) (i := 0) hN hv hd hcd).run pz sz σz Hz (fun v Hy => v = .ref f ∧ Hy = Hz) Iz ⟨.ref f, hs, rfl, rfl⟩) fun u sy ⟨v, Hy, Iy, ry, qy⟩ => ?_)
  obtain ⟨rfl, rfl⟩ := qy
  obtain rfl : u = Value.ref f := ry
  have la' := la.same sm
  obtain ⟨c', dV, hf, hc, hdd⟩ := id la'
  obtain ⟨⟨doc, pm, ctv, lam⟩, _, _⟩ := Iy.hok f _ hf
  refine PySem.W.callWith_F0 ⟨_, _, _, _, lam⟩ ?_
  have un : Un (frs X.stack) [] H Hy s.heap sy.heap := Iy.base
  have run : codeAny (model X.prog X.w) (X.A.deeper (envOfC qg sg s.heap.objs.size g cdg)) (.call (.ref f) ⟨[], []⟩)
      (CR (L2.CX X.prog X.w) (envOfC qg sg s.heap.objs.size g cdg :: X.stack) X.prog X.w Hy sy Q Ez) sy :=
    lam_run (X := X) Iy.env0 (C.un un fun _ _ _ z => nomatch z) la' B hr ht
  refine wpAny_call (codeAny_mono run fun r sx hq => ?_)
  cases r with
  | error e => exact tk e sx (XE.of_call Iy (fun cls d Hx hE => hW cls d Hx hE) hq)
  | ok fl =>
    cases fl with
    | ret u => exact Iy.after hq
    | next => exact False.elim hq
    | brk => exact False.elim hq
    | cont => exact False.elim hq
/-- the def that calls what it got (its first parameter a); TT: what it makes of the lambda's reading -/
def Gives2 (X : Cx) (Ng : List Str) (x : Str) (sg : Scope) (g : Addr) (cdg : Value) (bg : List Stmt) (a : Str) (TT : (XK → Hp → VK → Prop) → Hp → VK → Prop) : Prop :=
  ∀ (f : Addr) (s : Shared) (H : Hp) (Q : VK) (tl : XK → Hp → VK → Prop), Room 9 (X.A.deeper (envOfC x sg s.heap.objs.size g cdg)) →
    (∀ (W : WX) (pn : List (Addr × Obj)) (xe : Value → Shared → Prop) (pa pc : Pos), Takes ((cxOf C8.CX0 X.prog X.w X.K X.mg X.base Ng x sg g cdg X.A X.stack s H C8.E0).tr pn xe) W →
      PE ((cxOf C8.CX0 X.prog X.w X.K X.mg X.base Ng x sg g cdg X.A X.stack s H C8.E0).tr pn xe) (.Call (.Name a pa) [] [] pc) (tAct2 f H tl W)) →
    TT tl H Q →
    ∃ t, PSs (cxOf C8.CX0 X.prog X.w X.K X.mg X.base Ng x sg g cdg X.A X.stack s H C8.E0) bg t ∧ t { nx := fun _ H' => Q .non H', rt := Q } (L2.start Ng [.ref f]) H
/-- such a def, as it stands behind the top -/
structure GiveF (X : Cx) (Ng : List Str) (x : Str) (sg : Scope) (g : Addr) (bg : List Stmt) (a : Str) (TT : (XK → Hp → VK → Prop) → Hp → VK → Prop) : Prop where
  hm : X.mg x = some (.ref g)
  hk : PySem.W.keepIn X.K (.ref g) = true
  ex : ∃ (pg : Arguments) (dV kV doc pm cdv ct oc : Value) (an od : Option Addr) (osl : Array (Option Value)), X.K.lookup g = some ⟨oc, od, .func (PySem.W.fnOf x x pg bg sg dV kV doc pm an cdv ct), osl⟩ ∧ PySem.W.codeIn X.K cdv x = true ∧
    L2.Binds X.K (PySem.W.fnOf x x pg bg sg dV kV doc pm an cdv ct) [a] [] ∧ Gives2 X Ng x sg g cdv bg a TT
  Sg : FnScope Ng [a] sg
  hN : Ng[0]? = some a
  hv : Vis sg a
  hd : (a == ("__debug__" : Str)) = false
  hcd : (a == ("__classdict__" : Str)) = false
theorem give_run {TT : (XK → Hp → VK → Prop) → Hp → VK → Prop} {x a : Str} {g : Addr} {k : Nat} {bg : List Stmt} {sg : Scope} {Ng : List Str} {params : Arguments} {body : Expr} {scope : Scope} {ds : List V} {t : XK → TE} {s : Shared} {H : Hp} {σ : L2.St} {f : Addr} {Q : VK}
    (G : GiveF X Ng x sg g bg a TT) (e0 : Env0 X.prog X.w X.K X.mg X.base X.A X.stack s H) (C : CellsAt X σ H s.heap) (hr : Room (k + 2) X.A) (h9 : 9 ≤ k + 1) (la : LamAt X H f params body scope ds) (B : LamB X k params body scope ds t)
    (h : TT (fun E H' Q' => t E σ H' Q') H Q) : codeAny (model X.prog X.w) X.A (.call (.ref g) ⟨[.ref f], []⟩) (CR C8.CX0 X.stack X.prog X.w H s Q C8.E0) s := by
  obtain ⟨pg, dV, kV, doc, pm, cdv, ct, oc, an, od, osl, lk, hcg, hbi, hG⟩ := G.ex
  have kin : X.K.In s.heap := e0.mod.kin.keeps fun b o e => (e0.bs b o e).1
  refine run_ofS (N := Ng) (ps := [a]) (us := [.ref f]) (vs := [.ref f]) lk hcg G.Sg hr e0 (hbi s [.ref f] kin rfl) (.cons rfl .nil) rfl fun hr' => ?_
  exact hG f s H Q (fun E H' Q' => t E σ H' Q') (hr'.mono h9) (fun W pn xe pa pc tk => pe_act2 C la B tk hr' G.hN G.hv G.hd G.hcd) h
/-- what a call of such a def asks: the value is a lambda of ours -/
def tGive (X : Cx) (k : Nat) (TT : (XK → Hp → VK → Prop) → Hp → VK → Prop) (ta : TA) (τ : L2.St → L2.St) : TE := fun σz H Q =>
  ta σz H fun vs H1 => ∃ (f : Addr) (params : Arguments) (body : Expr) (scope : Scope) (ds : List V) (t : XK → TE), vs = [.ref f] ∧ LamAt X H1 f params body scope ds ∧ LamB X k params body scope ds t ∧ TT (fun E H' Q' => t E (τ σz) H' Q') H1 Q
/-- x(e), e a lambda of the def that runs -/
theorem pe_give2 {TT : (XK → Hp → VK → Prop) → Hp → VK → Prop} {x a : Str} {g : Addr} {k : Nat} {bg : List Stmt} {sg : Scope} {Ng : List Str} {e : Expr} {ta : TA} {p pos : Pos} (G : GiveF X Ng x sg g bg a TT) (hg : Gl X x) (hr : Room (k + 2) X.A) (h9 : 9 ≤ k + 1) (ha : PA X [e] ta)
    (hdb : (x == ("__debug__" : Str)) = false := by decide) (he : starEach [e] X.env = (false, eval e X.env) :: starEach [] X.env := by rfl) (hpl : (backTo pos (starEach [] X.env)).any (·.1) = false := by rfl) :
    PE X (.Call (.Name x p) [e] [] pos) (tGive X k TT ta id) := by
  refine ⟨fun pins s σ H Q I h => ?_⟩
  refine wpAny_Call_Name_kw (ld_glob I hg G.hm ?_ hdb)
  refine PySem.W.callWith_K (h₀ := X.base) I.ok.mod.kin G.hk (thn (ha.run pos pins s σ H _ I h) fun us s1 ⟨vs, H1, I1, r, q⟩ => ⟨I1.kIn, ?_⟩) he hpl
  obtain ⟨f, params, body, scope, ds, t, rfl, la, B, q⟩ := q
  obtain ⟨u, rfl, ru⟩ := r.one
  obtain rfl : u = Value.ref f := ru
  refine wpAny_call (codeAny_mono (give_run G I1.env0 (.of I1) hr h9 la B q) fun r sx hq => ?_)
  cases r with
  | error e => exact (show False from hq).elim
  | ok fl =>
    cases fl with
    | ret u => exact I1.after hq
    | next => exact False.elim hq
    | brk => exact False.elim hq
    | cont => exact False.elim hq
/-- the same in a comprehension's block -/
theorem pe_give2B {TT : (XK → Hp → VK → Prop) → Hp → VK → Prop} {x a : Str} {g : Addr} {k : Nat} {bg : List Stmt} {sg : Scope} {Ng : List Str} {e : Expr} {ta : TA} {p pos : Pos} {pins0 : List (Addr × Obj)} {s0 : Shared} {H0 : Hp} {σ0 : L2.St} {bscope : Scope} {cenv : Env} {fp : List Addr}
    (I0 : Inv X pins0 σ0 H0 s0) (hfp : ∀ b ∈ fp, FpOk X pins0 H0 b) (G : GiveF X Ng x sg g bg a TT) (hg : Gl (X.blk s0 H0 bscope cenv fp) x) (hr : Room (k + 2) X.A) (h9 : 9 ≤ k + 1) (ha : PA (X.blk s0 H0 bscope cenv fp) [e] ta)
    (hdb : (x == ("__debug__" : Str)) = false := by decide) (he : starEach [e] cenv = (false, eval e cenv) :: starEach [] cenv := by rfl) (hpl : (backTo pos (starEach [] cenv)).any (·.1) = false := by rfl) :
    PE (X.blk s0 H0 bscope cenv fp) (.Call (.Name x p) [e] [] pos) (tGive X k TT ta fun _ => σ0) := by
  refine ⟨fun pins s σ H Q I h => ?_⟩
  refine wpAny_Call_Name_kw (ld_glob I hg G.hm ?_ hdb)
  refine PySem.W.callWith_K (h₀ := X.base) I.ok.mod.kin G.hk (thn (ha.run pos pins s σ H _ I h) fun us s1 ⟨vs, H1, I1, r, q⟩ => ⟨I1.kIn, ?_⟩) he hpl
  obtain ⟨f, params, body, scope, ds, t, rfl, la, B, q⟩ := q
  obtain ⟨u, rfl, ru⟩ := r.one
  obtain rfl : u = Value.ref f := ru
  have C : CellsAt X σ0 H1 s1.heap := (CellsAt.of I0).un (show Un (frs X.stack) fp H0 H1 s0.heap s1.heap from I1.base) fun y c e z => (hfp c z).2.2.2.2.1 y c e rfl
  have run : codeAny (model X.prog X.w) X.A (.call (.ref g) ⟨[.ref f], []⟩) (CR C8.CX0 X.stack X.prog X.w H1 s1 Q C8.E0) s1 := give_run (X := X) G I1.env0 C hr h9 la B q
  refine wpAny_call (codeAny_mono run fun r sx hq => ?_)
  cases r with
  | error e => exact (show False from hq).elim
  | ok fl =>
    cases fl with
    | ret u => exact I1.after hq
    | next => exact False.elim hq
    | brk => exact False.elim hq
    | cont => exact False.elim hq
/-- [elt for tg in iter if ..] where elt may rest on the state at the comprehension's start -/
theorem pe_lcI {elt tg iter : Expr} {ifs : List Expr} {scope : Scope} {own : List (Str × Nat)} {pos : Pos} {wi : TI} {g : TG} {tt : TT} {te : L2.St → TE} (hc : X.calm = true) (hN : X.N.Nodup) (hi : PI X tg iter wi) (ok : BlkOk X.N X.env.scope scope own)
    (hg : ∀ (s : Shared) (H : Hp) (C : Addr) (cl : List (Str × Addr)) (fp : List Addr), PG (X.blk s H scope (compEnvC scope cl C X.env) fp) tg g) (ht : ∀ (s : Shared) (H : Hp) (C : Addr) (cl : List (Str × Addr)) (fp : List Addr), PTs (X.blk s H scope (compEnvC scope cl C X.env) fp) ifs tt)
    (he : ∀ (pins : List (Addr × Obj)) (σ : L2.St) (s : Shared) (H : Hp) (C : Addr) (cl : List (Str × Addr)) (fp : List Addr), Inv X pins σ H s → (∀ b ∈ fp, FpOk X pins H b) → PE (X.blk s H scope (compEnvC scope cl C X.env) fp) elt (te σ)) (hs : ∀ x, foldedSetIterable iter X.env x = pure x := by intro _; rfl) :
    PE X (.ListComp elt [⟨tg, iter, ifs, 0⟩] scope pos) (fun σ H Q => tLc wi g tt (te σ) (own.map (·.2)) σ H Q) := by
  refine ⟨fun pins s σ H Q I h => ?_⟩
  rw [eval_ListComp]
  have hfree : ∀ y ∈ scope.names, y.2 = .free → ∃ c, X.env.cells.lookup y.1 = some c := fun y hy e => by
    rcases ok.free y hy e with k | k
    · exact I.ok.has _ (.inl k)
    · exact I.ok.has _ (.inr k)
  refine wpAny_comprehension_free (use := none) rfl hs (closure_ok hfree) ok.kind (fun y hy e => by rw [ok.uniq y hy, e])
    (thn (hi.run pins s σ H _ I h) fun xv s1 hx => thn hx fun itv s2 h2 => ?_)
  obtain ⟨it, fp, tn, J, H2, e, I2, T, st2, f2, q⟩ := h2
  subst e
  refine wpAny_newObj_type (newEnv_comp ?_) (by show 0 ≤ sizeLine; decide)
  generalize hD : s2.heap.objs.size = D
  have hDn : H2 D = none := I2.hok.fresh (Nat.le_of_eq hD)
  obtain ⟨W, ⟨m0, w0⟩, turn⟩ := q D hDn
  generalize hs3 : ({ s2 with heap := s2.heap.push { cls := .type "list", data := .seq ([] : List Value).toArray } } : Shared) = s3
  have I3 : Inv X pins σ (upd H2 D (.lst [])) s3 := by
    rw [← hs3]
    refine I2.laid (t' := s2.toks) (fun b o e => Heap.get?_push_of_some _ e) (Nat.le_of_eq hD) ⟨Nat.zero_le _, [], 0, .nil, ?_⟩
    rw [← hD]
    exact Heap.get?_push_size _ rfl
  have h3 : s3.heap = s2.heap.push { cls := .type "list", data := .seq ([] : List Value).toArray } := by rw [← hs3]
  have sz : ∀ b ∈ fp, b < s2.heap.objs.size := fun b hb => by
    obtain ⟨o, e, _⟩ := T.obj _ _ st2 b hb
    exact Heap.lt_size e
  have f3 : ∀ b ∈ fp, FpOk X pins (upd H2 D (.lst [])) b ∧ b < s3.heap.objs.size := fun b hb => by
    have hlt := sz b hb
    refine ⟨⟨?_, (f2 b hb).2⟩, by rw [h3, Heap.size_push]; exact Nat.lt_succ_of_lt hlt⟩
    rw [upd_ne (by rw [← hD]; exact Nat.ne_of_lt hlt)]
    exact (f2 b hb).1
  have st3 : tn 0 s3.heap := T.keep _ _ _ st2 fun b _ o e => by rw [h3]; exact Heap.get?_push_of_some _ e
  have I4 := block_start I3 ok hN f3
  have pg := hg s3 (upd H2 D (.lst [])) s3.heap.objs.size (cellsFrom (s3.heap.objs.size + 1) scope.names (cloFrom X.env.cells scope.names [])) fp
  have pt := ht s3 (upd H2 D (.lst [])) s3.heap.objs.size (cellsFrom (s3.heap.objs.size + 1) scope.names (cloFrom X.env.cells scope.names [])) fp
  have pe := he pins σ s3 (upd H2 D (.lst [])) s3.heap.objs.size (cellsFrom (s3.heap.objs.size + 1) scope.names (cloFrom X.env.cells scope.names [])) fp I3 fun b hb => (f3 b hb).1
  show codeAny _ _ (.compStart (.ListComp elt [⟨tg, iter, ifs, 0⟩] scope pos) 0 (.ref it) (.ref D) (compEnvC scope (cellsFrom (s3.heap.objs.size + 1) scope.names (cloFrom X.env.cells scope.names [])) s3.heap.objs.size X.env)) (compPost (model X.prog X.w) X.A X.xe none (EP X pins σ Q) (.ref D) s3.heap.objs.size) { s3 with heap := pushCells (s3.heap.push { cls := .type "dict", data := .dict #[] }) scope.names }
  have nfp : ∀ b ∈ fp, (upd H2 D (.lst [])) b = none := fun b hb => (f3 b hb).1.1
  generalize hce : compEnvC scope (cellsFrom (s3.heap.objs.size + 1) scope.names (cloFrom X.env.cells scope.names [])) s3.heap.objs.size X.env = ce at I4 pg pt pe ⊢
  have cL : ce.locals = s3.heap.objs.size := by subst hce; rfl
  generalize hH3 : upd H2 D (.lst []) = H3 at I3 I4 pg pt pe w0 nfp f3
  generalize hs4 : ({ s3 with heap := pushCells (s3.heap.push { cls := .type "dict", data := .dict #[] }) scope.names } : Shared) = s4 at I4 ⊢
  have st4 : tn 0 s4.heap := T.keep _ _ _ st3 fun b _ o e => by rw [← hs4]; exact pushCells_keeps _ _ _ _ (Heap.get?_push_of_some _ e)
  have stat : ∀ {σ' : L2.St} {H' : Hp} {s' : Shared}, Inv (X.blk s3 H3 scope ce fp) [] σ' H' s' → (∀ b ∈ fp, H' b = none) → ∀ b ∈ fp, FpOk (X.blk s3 H3 scope ce fp) [] H' b := fun {σ' H' s'} I' hn b hb =>
    ⟨hn b hb, (I'.ok.exf b hb).1, I'.ok.exfs b hb, .inl hb, fun x c e => (I'.ok.exf b hb).2 x c e, fun p hp => absurd (show p ∈ ([] : List (Addr × Obj)) ++ [] from hp) (by simp)⟩
  have loop : codeAny (model X.prog X.w) X.A (.compLoop (.ListComp elt [⟨tg, iter, ifs, 0⟩] scope pos) 0 (.ref it) (.ref D) ce) (compPost (model X.prog X.w) X.A X.xe none (EP X pins σ Q) (.ref D) s3.heap.objs.size) s4 := by
    refine compLoop_any (fun n s' => ∃ i H', Inv (X.blk s3 H3 scope ce fp) [] (wipe σ (own.map (·.2))) H' s' ∧ tn i s'.heap ∧ (∀ b ∈ fp, H' b = none) ∧ W i n H') ?_ m0 ⟨0, H3, I4, st4, nfp, w0⟩
    rintro n s5 ⟨i, H5, I5, st5, n5, w5⟩
    rcases turn i n H5 w5 with ⟨stop, qq⟩ | ⟨go, Nx, hNx, step⟩
    · have td := T.done (X.blk s3 H3 scope ce fp) rfl rfl rfl hc i [] s5 _ H5 (fun _ _ => False) I5 (stat I5 n5) st5 stop
      refine thnF td fun r s6 ⟨hr, I6⟩ => ?_
      subst hr
      have I7 : Inv X pins σ H5 s6 := I3.call' (ch := fp) I6.os I6.base I6.hok I6.bare fun b hb => ⟨(f3 b hb).1.2.2.2.1, (f3 b hb).1.2.1, (f3 b hb).1.2.2.2.2.1, (f3 b hb).1.2.2.2.2.2⟩
      have nC : H5 s3.heap.objs.size = none := by
        have z : H5 ce.locals = none := I6.free
        rw [cL] at z
        exact z
      obtain ⟨m, hn, _⟩ := I6.loc
      have hn : s6.heap.Ns ce.locals m := hn
      rw [cL] at hn
      refine ⟨m, hn, fun h'' sb => ?_⟩
      obtain ⟨f0, f1, f2, f3, f4, f5⟩ := I3.fpOk (Nat.le_refl _) nC
      exact ⟨.ref D, H5, I7.turned (t' := s6.toks) (fun b o hb e => (sb.2 b hb).trans e) f0 f1 f3 f4 f5, rfl, qq⟩
    · have ti := T.item (X.blk s3 H3 scope ce fp) rfl rfl rfl hc i [] s5 _ H5 (fun _ _ => False) I5 (stat I5 n5) st5 go
      refine thnF ti fun r s6 ⟨u, hr, h6⟩ => ?_
      subst hr
      refine thnF h6 fun _ s7 ⟨x, H7, I7, r7, y7, st7, n7⟩ => ?_
      have I7' := I7.pinned (stat I7 n7) (T.obj _ _ st7)
      refine thnF (pg.run _ s7 _ H7 x u _ I7' r7 (step x H7 y7)) fun _ s8 ⟨σ8, H8, I8, hw8, q8⟩ => ?_
      refine thnF (pt.run _ s8 σ8 H8 _ I8 q8) fun b s9 ⟨H9, I9, q9⟩ => ?_
      have fin : ∀ {s' : Shared} {H' : Hp}, Inv (X.blk s3 H3 scope ce fp) ([] ++ pinsAt fp s7.heap) σ8 H' s' → Nx H' → ∃ m, m < n ∧ ∃ i H', Inv (X.blk s3 H3 scope ce fp) [] (wipe σ (own.map (·.2))) H' s' ∧ tn i s'.heap ∧ (∀ b ∈ fp, H' b = none) ∧ W i m H' := fun {s' H'} I' nx => by
        obtain ⟨m', hm, w'⟩ := hNx H' nx
        have pin' : ∀ b ∈ fp, ∀ o, s7.heap.get? b = some o → s'.heap.get? b = some o ∧ H' b = none := fun b hb o e =>
          let z := I'.pin (b, o) (List.mem_append_right _ (List.mem_append_right _ (mem_pinsAt hb e)))
          ⟨z.1, z.2.1⟩
        have hl : (wipe σ (own.map (·.2))).length = σ8.length := by rw [← hw8, wipe_length]
        refine ⟨m', hm, i + 1, H', (I'.unpinned (pins := [])).weak hl (fun j v e => ?_), T.keep _ _ _ st7 fun b hb o e => (pin' b hb o e).1, fun b hb => ?_, w'⟩
        · rw [← hw8] at e
          exact (wipe_some e).1
        · obtain ⟨o, e, _⟩ := T.obj _ _ st7 b hb
          exact (pin' b hb o e).2
      cases b with
      | false =>
        simp only [Bool.false_eq_true, if_false] at q9 ⊢
        exact fin I9 q9
      | true =>
        simp only [if_true] at q9 ⊢
        refine thnF (pe.run _ s9 σ8 H9 _ I9 q9) fun z s10 ⟨yv, H10, I10, r10, acc, hD10, hz10, nx⟩ => ?_
        exact app_ok (X := X.blk s3 H3 scope ce fp) I10 hD10 hz10 r10 fun s11 I11 => fin I11 nx
  exact codeAny_compStart_list loop (T.self X.A 0 _ _ _ st4 loop)
end
end Ru

set_option maxHeartbeats 4000000
/-! a row of lambdas, each told by a def: [f(c) for c in works]; lists of tuples compared -/
namespace Ru
open PySem PySem.Spec PyProof.Rows L2 LamX
section
variable {X : Cx} {k i j : Nat} {TT : (XK → Hp → VK → Prop) → Hp → VK → Prop} {σ : L2.St} {H H0 H1 : Hp} {f : Addr} {xs : List V} {Q : VK}
/-- the lambda at f, told: a tuple of xs -/
def Work (X : Cx) (k : Nat) (TT : (XK → Hp → VK → Prop) → Hp → VK → Prop) (σ : L2.St) (H0 : Hp) (f : Addr) (xs : List V) : Prop :=
  ∃ (params : Arguments) (body : Expr) (scope : Scope) (ds : List V) (t : XK → TE), LamAt X H0 f params body scope ds ∧ LamB X k params body scope ds t ∧
    ∀ (H' : Hp) (Q : VK), Same H0 H' → (∀ p H'', Same H' H'' → H'' p = some (.tup xs) → Q (.ref p) H'') → TT (fun E H' Q' => t E σ H' Q') H' Q
theorem Work.same (w : Work X k TT σ H0 f xs) (s : Same H0 H1) : Work X k TT σ H1 f xs := by
  obtain ⟨pa, bo, sc, ds, t, la, lb, go⟩ := w
  exact ⟨pa, bo, sc, ds, t, la.same s, lb, fun H' Q s' => go H' Q (s.trans s')⟩
/-- a list of tuples -/
def DL (H : Hp) (D : Addr) (rs : List (List V)) : Prop := ∃ ps : List Addr, H D = some (.lst (ps.map V.ref)) ∧ ps.length = rs.length ∧ ∀ (m : Nat) (p : Addr) (r : List V), ps[m]? = some p → rs[m]? = some r → H p = some (.tup r)
theorem DL.same {D : Addr} {rs : List (List V)} (h : DL H D rs) (s : Same H H1) : DL H1 D rs := by
  obtain ⟨ps, h1, h2, h3⟩ := h
  exact ⟨ps, s _ _ h1, h2, fun m p r a b => s _ _ (h3 m p r a b)⟩
theorem lc_works {K : PySem.W.Frag} {vs : List Nat} {a : Addr} {fs : List Addr} {rs : List (List V)} (hv : vs = [i]) (hj : σ[j]? = some (some (.ref a))) (hi : i < σ.length) (hl : SqL K H a (fs.map V.ref)) (ln : fs.length = rs.length) (l1 : fs.length ≤ 1000)
    (wk : ∀ (m : Nat) (f : Addr) (r : List V), fs[m]? = some f → rs[m]? = some r → Work X k TT σ H f r) (go : ∀ D H', Same H H' → DL H' D rs → Q (.ref D) H') :
    tLc (iList K (tVar j)) (gName i) tYes (tGive X k TT (tCons (tVar i) tNil) fun _ => σ) vs σ H Q := by
  subst hv
  refine ⟨_, hj, a, rfl, ⟨_, hl⟩, fun D hD => lc_list (K := K) (a := a) (xs := fs.map V.ref)
    (fun m H' => (∀ b o, b ≠ D → H b = some o → H' b = some o) ∧ ∃ ps : List Addr, H' D = some (.lst (ps.map V.ref)) ∧ ps.length = m ∧ m ≤ fs.length ∧ ∀ (n : Nat) (p : Addr) (r : List V), ps[n]? = some p → rs[n]? = some r → H' p = some (.tup r)) ?_ ?_ ?_ ?_⟩
  · exact ⟨fun b o n e => by rw [upd_ne n]; exact e, [], by rw [upd_same]; rfl, rfl, Nat.zero_le _, fun n p r e => by simp at e⟩
  · rintro m H' hm ⟨fr, _⟩
    exact Same.seq (fun b o e => fr b o (ne_of_none e hD) e) hl
  · rintro m x H' hx ⟨fr, ps, hD', lp, lm, hp⟩
    have sm : Same H H' := fun b o e => fr b o (ne_of_none e hD) e
    have hm : m < fs.length := by
      have := (List.getElem?_eq_some_iff.mp hx).1
      rw [List.length_map] at this
      exact this
    have ef : fs[m]? = some fs[m] := List.getElem?_eq_getElem hm
    have er : rs[m]? = some (rs[m]'(by omega)) := List.getElem?_eq_getElem (by omega)
    rw [List.getElem?_map, ef] at hx
    cases hx
    obtain ⟨pa, bo, sc, ds, t, la, lb, w⟩ := wk m _ _ ef er
    have hw : (wipe σ [i]).length = σ.length := wipe_length σ [i]
    refine ⟨?_, ?_⟩
    · show ((wipe σ []).set i none |>.set i (some (V.ref fs[m]))).set i none = (wipe σ []).set i none
      rw [List.set_set, List.set_set]
    show tGive X k TT (tCons (tVar i) tNil) (fun _ => σ) ((wipe σ [i]).set i (some (V.ref fs[m]))) H' _
    refine ⟨_, List.getElem?_set_self (by rw [hw]; exact hi), _, pa, bo, sc, ds, t, rfl, la.same sm, lb, ?_⟩
    refine w H' _ sm fun p H'' s'' hp'' => ?_
    have hD'' := s'' _ _ hD'
    refine ⟨_, hD'', by rw [List.length_map, lp]; exact Nat.lt_of_lt_of_le hm (Nat.le_trans l1 (by decide)), fun b o n e => by rw [upd_ne n]; exact s'' _ _ (fr b o n e), ps ++ [p], by rw [upd_same, List.map_append]; rfl, by rw [List.length_append, lp]; rfl, hm, fun n q r e1 e2 => ?_⟩
    have npD : ∀ {q : Addr} {r : List V}, H'' q = some (.tup r) → q ≠ D := fun {q r} e => ne_of e hD'' (fun z => nomatch z)
    by_cases hn : n < ps.length
    · rw [List.getElem?_append_left hn] at e1
      have := s'' _ _ (hp n q r e1 e2)
      rw [upd_ne (npD this)]
      exact this
    · rw [List.getElem?_append_right (by omega)] at e1
      have h0 : n - ps.length = 0 := by
        cases hh : n - ps.length with
        | zero => rfl
        | succ z => rw [hh] at e1; simp at e1
      rw [h0] at e1
      cases e1
      have : n = m := by omega
      subst this
      rw [er] at e2
      cases e2
      rw [upd_ne (npD hp'')]
      exact hp''
  · rintro H' ⟨fr, ps, hD', lp, _, hp⟩
    rw [List.length_map] at lp
    exact go D H' (fun b o e => fr b o (ne_of_none e hD) e) ⟨ps, hD', by rw [lp, ln], hp⟩
end
/-! ### promises put together -/
theorem fnUp {P : Program} {w : World} {K : PySem.W.Frag} {mg : Str → Option Value} {base : Heap} {k : Nat} {f : Addr} {fd : FuncData} {ps : List Str} {sp : Sp} (F : FnOk P w K mg base C8.CX0 k f fd ps sp) : FnOk P w K mg base (L2.CX P w) k f fd ps sp :=
  ⟨F.len, fun A outer s H args us vs Q E hr he hb hv hs => codeAny_mono (F.run A outer s H args us vs Q E hr he hb hv hs) fun r s' h => by
    cases r with
    | error e => exact (show False from h).elim
    | ok fl => cases fl <;> exact h⟩
theorem fnOr {P : Program} {w : World} {K : PySem.W.Frag} {mg : Str → Option Value} {base : Heap} {CX : CXT} {k : Nat} {f : Addr} {fd : FuncData} {ps : List Str} {sp sp' : Sp} (F : FnOk P w K mg base CX k f fd ps sp) (G : FnOk P w K mg base CX k f fd ps sp') :
    FnOk P w K mg base CX k f fd ps (fun vs H Q E => sp vs H Q E ∨ sp' vs H Q E) :=
  ⟨fun vs H Q E q => q.elim (F.len vs H Q E) (G.len vs H Q E), fun A outer s H args us vs Q E hr he hb hv hs => hs.elim (F.run A outer s H args us vs Q E hr he hb hv) (G.run A outer s H args us vs Q E hr he hb hv)⟩
/-! ### the comparison of such lists -/
def pdV : V → PyData
  | .str z => .str z
  | .int n => .int n
  | .bl b => .bool b
  | _ => .none
def okV : V → Bool
  | .str _ => true
  | .int _ => true
  | .bl _ => true
  | .non => true
  | _ => false
def pdL (rs : List (List V)) : PyData := .list (rs.map fun r => .tuple (r.map pdV))
section
variable {K : PySem.W.Frag} {H : Hp} {D D2 : Addr} {rs rt : List (List V)} {Q : VK}
theorem dp_flat : ∀ {r : List V}, r.all okV = true → DpAll K H r (r.map pdV)
  | [], _ => .nil
  | v :: r, h => by
    simp only [List.all_cons, Bool.and_eq_true] at h
    refine .cons ?_ (dp_flat h.2)
    cases v <;> first | exact .str _ | exact .int _ | exact .bl _ | exact .non | exact absurd (show false = true from h.1) Bool.false_ne_true
theorem dp_tups : ∀ {ps : List Addr} {rs : List (List V)}, ps.length = rs.length → (∀ (m : Nat) (p : Addr) (r : List V), ps[m]? = some p → rs[m]? = some r → H p = some (.tup r)) → (rs.all fun r => r.all okV) = true → DpAll K H (ps.map V.ref) (rs.map fun r => .tuple (r.map pdV))
  | [], [], _, _, _ => .nil
  | [], _ :: _, e, _, _ => by cases e
  | _ :: _, [], e, _, _ => by cases e
  | p :: ps, r :: rs, e, h, o => by
    simp only [List.all_cons, Bool.and_eq_true] at o
    exact .cons (.tup (SqT.of (h 0 p r rfl rfl)) (dp_flat o.1)) (dp_tups (Nat.succ.inj e) (fun m p' r' a b => h (m + 1) p' r' a b) o.2)
theorem DL.dp (h : DL H D rs) (o : (rs.all fun r => r.all okV) = true) : Dp K H (.ref D) (pdL rs) := by
  obtain ⟨ps, h1, h2, h3⟩ := h
  exact .lst (SqL.of h1) (dp_tups h2 h3 o)
theorem neD_DL (h : DL H D rs) (h2 : DL H D2 rt) (o : (rs.all fun r => r.all okV) = true) (o2 : (rt.all fun r => r.all okV) = true) (sh : SeqAt.shaped (pdL rs) = true) (sh2 : SeqAt.shaped (pdL rt) = true) (q : Q (.bl (!PyData.eqv (pdL rs) (pdL rt))) H) : rNeD K (.ref D) (.ref D2) H Q :=
  ⟨_, _, h.dp o, h2.dp o2, sh, sh2, q⟩
theorem eqD_DL (h : DL H D rs) (h2 : DL H D2 rt) (o : (rs.all fun r => r.all okV) = true) (o2 : (rt.all fun r => r.all okV) = true) (sh : SeqAt.shaped (pdL rs) = true) (sh2 : SeqAt.shaped (pdL rt) = true) (q : Q (.bl (PyData.eqv (pdL rs) (pdL rt))) H) : rEqD K (.ref D) (.ref D2) H Q :=
  ⟨_, _, h.dp o, h2.dp o2, sh, sh2, q⟩
end
end Ru
namespace Ru
open PySem PySem.Spec PyProof.Rows L2 LamX
def pdT (r : List V) : PyData := .tuple (r.map pdV)
theorem neD_tup {K : PySem.W.Frag} {H : Hp} {p q : Addr} {r t : List V} {Q : VK} (hp : H p = some (.tup r)) (hq : H q = some (.tup t)) (o : r.all okV = true) (o2 : t.all okV = true) (sh : SeqAt.shaped (pdT r) = true) (sh2 : SeqAt.shaped (pdT t) = true) (k : Q (.bl (!PyData.eqv (pdT r) (pdT t))) H) : rNeD K (.ref p) (.ref q) H Q :=
  ⟨_, _, .tup (SqT.of hp) (dp_flat o), .tup (SqT.of hq) (dp_flat o2), sh, sh2, k⟩
theorem give_work {X : Cx} {k : Nat} {TT : (XK → Hp → VK → Prop) → Hp → VK → Prop} {σ : L2.St} {H : Hp} {f : Addr} {xs : List V} {Q : VK} (w : Work X k TT σ H f xs) (go : ∀ p H'', Same H H'' → H'' p = some (.tup xs) → Q (.ref p) H'') :
    ∃ (f' : Addr) (params : Arguments) (body : Expr) (scope : Scope) (ds : List V) (t : XK → TE), [V.ref f] = [.ref f'] ∧ LamAt X H f' params body scope ds ∧ LamB X k params body scope ds t ∧ TT (fun E H' Q' => t E σ H' Q') H Q := by
  obtain ⟨pa, bo, sc, ds, t, la, lb, w⟩ := w
  exact ⟨f, pa, bo, sc, ds, t, rfl, la, lb, w H Q (Same.refl _) go⟩
end Ru
/-! ### a list of lambdas that grows -/
namespace Ru
open PySem PySem.Spec PyProof.Rows L2 LamX
/-- all but the lists stay -/
def ExtL (H H' : Hp) : Prop := ∀ b o, H b = some o → (∀ xs, o ≠ .lst xs) → H' b = some o
structure Lm where
  f : Addr
  pa : Arguments
  bo : Expr
  sc : Scope
  ds : List V
section
variable {X : Cx} {T : List (Addr × Str)} {H H' H0 : Hp} {W : Addr} {ls : List Lm}
theorem LamAt.extL {f : Addr} {params : Arguments} {body : Expr} {scope : Scope} {ds : List V} (h : LamAt X H f params body scope ds) (e : ExtL H H') : LamAt X H' f params body scope ds := by
  obtain ⟨c', dV, h1, h2, h3⟩ := h
  refine ⟨c', dV, e _ _ h1 (fun xs z => by unfold LamO at z; cases z), e _ _ h2 (fun xs z => by unfold CodeO at z; cases z), ?_⟩
  rcases h3 with h3 | ⟨h0, T, h3, h4⟩
  · exact .inl h3
  · exact .inr ⟨h0, T, h3, e _ _ h4 fun ps z => nomatch z⟩
theorem tabs_extL (t : Tabs T H) (e : ExtL H H') : Tabs T H' := fun p hp => by
  obtain ⟨ps, h1, h2, h3⟩ := t p hp
  refine ⟨ps, e _ _ h1 (fun _ z => nomatch z), h2, fun pos cv hc => ?_⟩
  obtain ⟨c, e1, e2⟩ := h3 pos cv hc
  exact ⟨c, e1, e _ _ e2 (fun xs z => by unfold CodeO at z; cases z)⟩
theorem extL_upd {xs : List V} {o : HO} (hW : H W = some (.lst xs)) : ExtL H (upd H W o) := fun b u e n => by
  rw [upd_ne fun z => by rw [z, hW] at e; exact n _ (Option.some.inj e).symm]; exact e
/-- the list at W holds the lambdas ls; what stood at the start (H0) stands -/
structure WS (X : Cx) (T : List (Addr × Str)) (H0 H : Hp) (W : Addr) (ls : List Lm) : Prop where
  ext : ExtN H0 H
  off : ∀ b u, H0 b = some u → (∀ ps, u ≠ .tbl ps) → b ≠ W
  tab : Tabs T H
  at_ : H W = some (.lst (ls.map fun l => V.ref l.f))
  lam : ∀ l ∈ ls, LamAt X H l.f l.pa l.bo l.sc l.ds
theorem WS.start (e : ExtN H0 H) (t : Tabs T H) (hl : ∀ l ∈ ls, LamAt X H l.f l.pa l.bo l.sc l.ds) (hW : H W = none) : WS X T H0 (upd H W (.lst (ls.map fun l => V.ref l.f))) W ls where
  ext := e.trans (ExtN.of (sameU hW))
  off := fun b u h n => ne_of_none (e b u h n) hW
  tab := t.ext (sameU hW)
  at_ := upd_same
  lam := fun l h => (hl l h).same (sameU hW)
theorem WS.more {ms : List Lm} (w : WS X T H0 H W ls) (e : ExtN H H') (t : Tabs T H') (hl : ∀ l ∈ ms, LamAt X H' l.f l.pa l.bo l.sc l.ds) : WS X T H0 (upd H' W (.lst ((ls ++ ms).map fun l => V.ref l.f))) W (ls ++ ms) := by
  have hW := e _ _ w.at_ (fun _ z => nomatch z)
  have x := extL_upd (o := .lst ((ls ++ ms).map fun l => V.ref l.f)) hW
  refine ⟨fun b u h n => ?_, w.off, tabs_extL t x, upd_same, fun l h => ?_⟩
  · rw [upd_ne (w.off b u h n)]
    exact e _ _ (w.ext b u h n) n
  · rcases List.mem_append.mp h with h | h
    · exact ((w.lam l h).ext e).extL x
    · exact (hl l h).extL x
theorem WS.same {ms : List Lm} (w : WS X T H0 H W ls) (s : Same H H') : WS X T H0 H' W ls := ⟨w.ext.trans (ExtN.of s), w.off, w.tab.ext s, s _ _ w.at_, fun l h => (w.lam l h).same s⟩
theorem WS.get (w : WS X T H0 H W ls) (n : Nat) {f : Addr} {pa : Arguments} {bo : Expr} {sc : Scope} {ds : List V} (h : ls[n]? = some ⟨f, pa, bo, sc, ds⟩) : LamAt X H f pa bo sc ds := w.lam _ (List.mem_of_getElem? h)
variable {K : PySem.W.Frag} {j : Nat} {σ : L2.St} {D : Ends}
theorem ws_one {pa : Arguments} {bo : Expr} {sc : Scope} {ds : List V} {Q : VK} (t : Tabs T H0) (k : ∀ W H f, WS X T H0 H W [⟨f, pa, bo, sc, ds⟩] → Q (.ref W) H) : tLst (tCons (tLamV T X pa bo sc ds) tNil) σ H0 Q :=
  ⟨t, fun f H1 e1 t1 _ la => ⟨by show 1 ≤ sizeLine; decide, fun W nW => k W _ f (.start (ls := [⟨f, pa, bo, sc, ds⟩]) e1 t1 (fun l h => by rcases List.mem_singleton.mp h with rfl; exact la) nW)⟩⟩
theorem ws_two {pa pa2 : Arguments} {bo bo2 : Expr} {sc sc2 : Scope} {ds ds2 : List V} {Q : VK} (t : Tabs T H0) (k : ∀ W H f f2, WS X T H0 H W [⟨f, pa, bo, sc, ds⟩, ⟨f2, pa2, bo2, sc2, ds2⟩] → Q (.ref W) H) : tLst (tCons (tLamV T X pa bo sc ds) (tCons (tLamV T X pa2 bo2 sc2 ds2) tNil)) σ H0 Q :=
  ⟨t, fun f H1 e1 t1 _ la => ⟨t1, fun f2 H2 e2 t2 _ la2 => ⟨by show 2 ≤ sizeLine; decide, fun W nW => k W _ f f2 (.start (ls := [⟨f, pa, bo, sc, ds⟩, ⟨f2, pa2, bo2, sc2, ds2⟩]) (e1.trans e2) t2 (fun l h => by
    rcases List.mem_cons.mp h with rfl | h
    · exact la.ext e2
    · rcases List.mem_singleton.mp h with rfl; exact la2) nW)⟩⟩⟩
theorem ws_three {pa pa2 pa3 : Arguments} {bo bo2 bo3 : Expr} {sc sc2 sc3 : Scope} {ds ds2 ds3 : List V} {Q : VK} (t : Tabs T H0) (k : ∀ W H f f2 f3, WS X T H0 H W [⟨f, pa, bo, sc, ds⟩, ⟨f2, pa2, bo2, sc2, ds2⟩, ⟨f3, pa3, bo3, sc3, ds3⟩] → Q (.ref W) H) : tLst (tCons (tLamV T X pa bo sc ds) (tCons (tLamV T X pa2 bo2 sc2 ds2) (tCons (tLamV T X pa3 bo3 sc3 ds3) tNil))) σ H0 Q :=
  ⟨t, fun f H1 e1 t1 _ la => ⟨t1, fun f2 H2 e2 t2 _ la2 => ⟨t2, fun f3 H3 e3 t3 _ la3 => ⟨by show 3 ≤ sizeLine; decide, fun W nW => k W _ f f2 f3 (.start (ls := [⟨f, pa, bo, sc, ds⟩, ⟨f2, pa2, bo2, sc2, ds2⟩, ⟨f3, pa3, bo3, sc3, ds3⟩]) ((e1.trans e2).trans e3) t3 (fun l h => by
    rcases List.mem_cons.mp h with rfl | h
    · exact la.ext (e2.trans e3)
    · rcases List.mem_cons.mp h with rfl | h
      · exact la2.ext e3
      · rcases List.mem_singleton.mp h with rfl; exact la3) nW)⟩⟩⟩⟩
theorem ws_append {pa : Arguments} {bo : Expr} {sc : Scope} {ds : List V} (w : WS X T H0 H W ls) (hj : σ[j]? = some (some (.ref W))) (hz : ls.length ≤ 1000) (k : ∀ H' f, WS X T H0 H' W (ls ++ [⟨f, pa, bo, sc, ds⟩]) → D.nx σ H') : tDrop (tBM K "list" rAppend (tVar j) (tCons (tLamV T X pa bo sc ds) tNil)) D σ H :=
  ⟨_, hj, .inl ⟨rfl, _, SqL.of w.at_⟩, w.tab, fun f H1 e1 t1 _ la => ⟨W, _, _, rfl, rfl, e1 _ _ w.at_ (fun _ z => nomatch z), by rw [List.length_map]; exact Nat.lt_of_le_of_lt hz (by decide), by
    have h := w.more (ms := [⟨f, pa, bo, sc, ds⟩]) e1 t1 (fun l h => by rcases List.mem_singleton.mp h with rfl; exact la)
    rw [List.map_append] at h
    exact k _ f h⟩⟩
theorem ws_extend2 {pa pa2 : Arguments} {bo bo2 : Expr} {sc sc2 : Scope} {ds ds2 : List V} (w : WS X T H0 H W ls) (hj : σ[j]? = some (some (.ref W))) (hz : ls.length ≤ 1000) (k : ∀ H' f f2, WS X T H0 H' W (ls ++ [⟨f, pa, bo, sc, ds⟩, ⟨f2, pa2, bo2, sc2, ds2⟩]) → D.nx σ H') :
    tDrop (tBM K "list" rExtend (tVar j) (tCons (tLst (tCons (tLamV T X pa bo sc ds) (tCons (tLamV T X pa2 bo2 sc2 ds2) tNil))) tNil)) D σ H :=
  ⟨_, hj, .inl ⟨rfl, _, SqL.of w.at_⟩, w.tab, fun f H1 e1 t1 _ la => ⟨t1, fun f2 H2 e2 t2 _ la2 => ⟨by show 2 ≤ sizeLine; decide, fun m nm => by
    have hW := e2 _ _ (e1 _ _ w.at_ (fun _ z => nomatch z)) (fun _ z => nomatch z)
    have s := sameU (o := .lst [V.ref f, V.ref f2]) nm
    refine ⟨W, m, _, _, rfl, rfl, s _ _ hW, upd_same, by rw [List.length_map]; show ls.length + 2 ≤ sizeLine; exact Nat.le_trans (Nat.add_le_add_right hz 2) (by decide), ?_⟩
    have h := w.more (ms := [⟨f, pa, bo, sc, ds⟩, ⟨f2, pa2, bo2, sc2, ds2⟩]) ((e1.trans e2).trans (ExtN.of s)) (t2.ext s) (fun l h => by
      rcases List.mem_cons.mp h with rfl | h
      · exact (la.ext e2).same s
      · rcases List.mem_singleton.mp h with rfl; exact la2.same s)
    rw [List.map_append] at h
    exact k _ f f2 h⟩⟩⟩
end
end Ru

namespace W6
open PySem PySem.Spec PyProof.Rows L2 Ru StX
def Fl (u v : V) : Prop := u = v ∧ ((∃ n : Int, u = .int n) ∨ (∃ b : Bool, u = .bl b) ∨ (∃ s : Str, u = .str s) ∨ u = .non)
def Sq1 (R : V → V → Hp → Prop) (H : Hp) (xs ys : List V) : Prop := xs.length = ys.length ∧ xs.length ≤ 1000000 ∧ ∀ (i : Nat) (u v : V), xs[i]? = some u → ys[i]? = some v → R u v H
def AS (R : V → V → Hp → Prop) (u v : V) (H : Hp) : Prop := Fl u v ∨ ∃ (x y : Addr) (xs ys : List V), u = .ref x ∧ v = .ref y ∧ Sq1 R H xs ys ∧ ((H x = some (.lst xs) ∧ H y = some (.lst ys)) ∨ (H x = some (.tup xs) ∧ H y = some (.tup ys)))
def R0 (u v : V) (_ : Hp) : Prop := Fl u v
def R1 : V → V → Hp → Prop := AS R0
def R2 : V → V → Hp → Prop := AS R1
theorem Sq1.same {R : V → V → Hp → Prop} (m : ∀ u v H H', R u v H → Same H H' → R u v H') {H H' : Hp} {xs ys : List V} (h : Sq1 R H xs ys) (s : Same H H') : Sq1 R H' xs ys := ⟨h.1, h.2.1, fun i u v hu hv => m _ _ _ _ (h.2.2 i u v hu hv) s⟩
theorem AS.same {R : V → V → Hp → Prop} (m : ∀ u v H H', R u v H → Same H H' → R u v H') (u v : V) (H H' : Hp) (h : AS R u v H) (s : Same H H') : AS R u v H' := by
  rcases h with h | ⟨x, y, xs, ys, e1, e2, q, h⟩
  · exact .inl h
  · refine .inr ⟨x, y, xs, ys, e1, e2, q.same m s, ?_⟩
    rcases h with ⟨h1, h2⟩ | ⟨h1, h2⟩
    · exact .inl ⟨s _ _ h1, s _ _ h2⟩
    · exact .inr ⟨s _ _ h1, s _ _ h2⟩
theorem R0.mono : ∀ u v H H', R0 u v H → Same H H' → R0 u v H' := fun _ _ _ _ h _ => h
theorem R1.mono : ∀ u v H H', R1 u v H → Same H H' → R1 u v H' := AS.same R0.mono
def spAk (R : V → V → Hp → Prop) : Sp := fun vs H Q _ => ∃ u v, vs = [u, v] ∧ R u v H ∧ ∀ H', Same H H' → Q (.bl true) H'
section
variable {P : Program} {w : World} {K : PySem.W.Frag} {mg : Str → Option Value} {base : Heap} {a : Ad}
theorem kitN' {s : String} (h1 : kitB s "tuple" = some false) (h2 : kitB s "list" = some false) : PySem.W.kitAny K (.type s) [.type "tuple", .type "list"] = some false := by
  unfold PySem.W.kitAny
  rw [kit_ty h1]
  unfold PySem.W.kitAny
  rw [kit_ty h2]
  try rfl
theorem kitTup' : PySem.W.kitAny K (.type "tuple") [.type "tuple", .type "list"] = some true := by
  unfold PySem.W.kitAny
  rw [kit_ty (r := true) (by decide +kernel)]
  try rfl
theorem kitLst' : PySem.W.kitAny K (.type "list") [.type "tuple", .type "list"] = some true := by
  unfold PySem.W.kitAny
  rw [kit_ty (r := false) (by decide +kernel)]
  unfold PySem.W.kitAny
  rw [kit_ty (r := true) (by decide +kernel)]
  try rfl
theorem ndF {x y : V} (h : x = y) : (!decide (x = y)) = false := by rw [dT h]; rfl
def spSq (R : V → V → Hp → Prop) : Sp := fun vs H Q _ => ∃ (x y : Addr) (xs ys : List V), vs = [.ref x, .ref y] ∧ Sq1 R H xs ys ∧ ((H x = some (.lst xs) ∧ H y = some (.lst ys)) ∨ (H x = some (.tup xs) ∧ H y = some (.tup ys))) ∧ ∀ H', Same H H' → Q (.bl true) H'
end
/-! what is alike -/
theorem Fl.int (n : Int) : Fl (.int n) (.int n) := ⟨rfl, .inl ⟨n, rfl⟩⟩
theorem Fl.bl (b : Bool) : Fl (.bl b) (.bl b) := ⟨rfl, .inr (.inl ⟨b, rfl⟩)⟩
theorem Fl.str (s : Str) : Fl (.str s) (.str s) := ⟨rfl, .inr (.inr (.inl ⟨s, rfl⟩))⟩
theorem Fl.non : Fl .non .non := ⟨rfl, .inr (.inr (.inr rfl))⟩
theorem Sq1.nil {R : V → V → Hp → Prop} {H : Hp} : Sq1 R H [] [] := ⟨rfl, by decide, fun i u v h => by simp at h⟩
theorem Sq1.cons {R : V → V → Hp → Prop} {H : Hp} {u v : V} {xs ys : List V} (h : R u v H) (q : Sq1 R H xs ys) (l : xs.length < 1000000) : Sq1 R H (u :: xs) (v :: ys) := ⟨by rw [List.length_cons, List.length_cons, q.1], by rw [List.length_cons]; omega, fun i u' v' a b => match i, a, b with
  | 0, a, b => by cases a; cases b; exact h
  | i + 1, a, b => q.2.2 i u' v' a b⟩
theorem Sq1.ints {H : Hp} {ns : List Int} (l : ns.length ≤ 1000000) : Sq1 R0 H (ns.map V.int) (ns.map V.int) := ⟨rfl, by rw [List.length_map]; exact l, fun i u v a b => by
  rw [a] at b; cases b
  rw [List.getElem?_map] at a
  cases e : ns[i]? with
  | none => rw [e] at a; cases a
  | some n => rw [e] at a; cases a; exact Fl.int n⟩
end W6

namespace W6
open PySem PySem.Spec PyProof.Rows L2 Ru StX
section
variable {P : Program} {w : World} {K : PySem.W.Frag} {mg : Str → Option Value} {base : Heap} {a : Ad}
end
end W6

namespace W6
open PySem PySem.Spec PyProof.Rows L2 Ru StX
theorem cut_pre {cs : List Int} {i : Nat} (h : i ≤ cs.length) : cutV (cs.map V.int) none (some (i : Int)) = (cs.take i).map V.int := by
  unfold cutV
  rw [HT.sIx_none, HT.sIx_nat, List.length_map, Nat.min_eq_left h, List.drop_zero, Nat.sub_zero, List.map_take]
theorem sums_at {cs : List Int} {gg : Int} {r : Nat} (h : r < cs.length) : (sumsV cs gg)[r]? = some (.int (Th.pre cs gg r)) := by
  unfold sumsV
  simp [h]
theorem sum_bd : ∀ {cs : List Int}, (∀ c ∈ cs, -100 ≤ c ∧ c ≤ 100) → -(100 * (cs.length : Int)) ≤ cs.sum ∧ cs.sum ≤ 100 * (cs.length : Int)
  | [], _ => by simp
  | c :: r, h => by
    have h1 := h c List.mem_cons_self
    have h2 := sum_bd (cs := r) (fun x hx => h x (List.mem_cons_of_mem _ hx))
    simp only [List.sum_cons, List.length_cons]
    omega
theorem rsum_bd {cs : List Int} (c : CH cs) {gg : Int} (g0 : 0 ≤ gg) (g1 : gg ≤ 200) : -10000 ≤ Th.rsum cs gg ∧ Th.rsum cs gg ≤ 10000 := by
  have b := sum_bd c.2.2
  have c1 := c.1
  have c2 := c.2.1
  unfold Th.rsum
  have m0 : 0 ≤ gg * (cs.length : Int) := Int.mul_nonneg g0 (by omega)
  have m1 : gg * (cs.length : Int) ≤ 200 * 24 := Int.mul_le_mul g1 (by omega) (by omega) (by omega)
  omega
theorem gon_bd {g : Int} (h1 : 1 ≤ g) (h2 : g ≤ 200) (b : Bool) : 0 ≤ Th.gon g b ∧ Th.gon g b ≤ 200 := by
  unfold Th.gon
  split <;> omega
section
variable {P : Program} {w : World} {K : PySem.W.Frag} {mg : Str → Option Value} {base : Heap} {a : Ad}
theorem ok_Drift_init (T : Txt K mg a) : FnOk P w K mg base CX0 1 a.f_Drift_init a.d_Drift_init ["self", "changes", "gain"] (spDi a) := by
  refine T.F_Drift_init.ok sc_Drift_init (fun vs H Q E h => ?_) (fun cdv A outer s H vs Q E hr h => ?_)
  · obtain ⟨x, dx, t, cs, gg, rfl, _⟩ := h
    rfl
  · obtain ⟨x, dx, t, cs, gg, rfl, hx, ht, c, g0, g1, k⟩ := h
    obtain ⟨c1, c2, c3⟩ := id c
    refine ⟨_, (pss_cons (ps_fld (pv 0) (pe_callB call_len_seq (by rfl) T.z_len PySem.boot_len (pa_cons (pv 1) pa_nil)) rfl)
      (pss_cons (ps_fld (pv 0) (pe_op op_add (pe_callB (cr_sumT rfl) (by rfl) T.z_sum (by decide +kernel) (pa_cons (pv 1) pa_nil)) (pe_op op_mul (pv 2) (pe_callB call_len_seq (by rfl) T.z_len PySem.boot_len (pa_cons (pv 1) pa_nil)))) rfl)
      (pss_one (ps_fld (pv 0) (pe_lc (own := [("ticks", 3)]) (g := gName 3) rfl sc_Drift_init.nd (pi_range1 (by rfl) T.z_range (pa_cons (pe_callB call_len_seq (by rfl) T.z_len PySem.boot_len (pa_cons (pv 1) pa_nil)) pa_nil)) (blkOk_by (own := [("ticks", 3)]) (N := ["self", "changes", "gain", "ticks"]) (sc := (defScope s_Drift_init)) (by decide +kernel)) (fun _ _ _ _ _ => pg_name (i := 3) sc_Drift_init.nd rfl (Or.inl rfl)) (fun _ _ _ _ _ => pts_nil) (fun _ _ _ _ _ => (pe_op op_add (pe_callB (show CallR _ (.builtin "sum") (rSumT K) from cr_sumT rfl) (by rfl) T.z_sum (by decide +kernel) (pa_cons (pe_slice (show SlR _ (rSlA K) from sl_tupA) (pv 1) po_none (po_some (pv 3))) pa_nil)) (pe_op op_mul (pv 2) (pv 3))))) rfl)))), ?_⟩
    have ntx : t ≠ x := ne_of ht hx (fun z => nomatch z)
    refine ⟨_, rfl, t, _, rfl, .inr (SqT.of ht), _, rfl, x, _, dx, _, rfl, hx, T.cl_Drift, T.na_Drift_round_ticks, by show 0 < 1000; decide, ?_⟩
    have t1 := (upd_ne (H := H) (o := .ins a.c_Drift dx (putF (Str.ofString "round_ticks") (V.int ((cs.map V.int).length : Nat)) [])) ntx).trans ht
    refine ⟨_, rfl, t, cs, rfl, SqT.of t1, _, rfl, _, rfl, t, _, rfl, .inr (SqT.of t1), _, _, rfl, rfl, .inl ⟨by omega, by omega⟩, _, _, rfl, rfl, _, rfl, x, _, dx, _, rfl, upd_same, T.cl_Drift, T.na_Drift_round_sum, by show 1 < 1000; decide, ?_⟩
    generalize hH2 : upd _ x (HO.ins a.c_Drift dx (putF (Str.ofString "round_sum") _ _)) = H2
    have hx2 : H2 x = some (.ins a.c_Drift dx [("round_ticks", .int cs.length), ("round_sum", .int (Th.rsum cs gg))]) := by
      rw [← hH2, upd_same]
      unfold Th.rsum
      rw [List.length_map]
      rfl
    have fr2 : Fr1 x H H2 := by rw [← hH2]; exact Fr1.upd.trans Fr1.upd
    have t2 : H2 t = some (.tup (cs.map V.int)) := fr2 _ _ ntx ht
    refine ⟨_, rfl, t, _, rfl, .inr (SqT.of t2), _, rfl, by omega, by rw [List.length_map]; omega, fun D hD => lc_range (lo := 0) (n := ((((cs.map V.int).length : Nat) : Int)).toNat) (fun i H' => (∀ b o, b ≠ D → H2 b = some o → H' b = some o) ∧ H' D = some (.lst ((List.range i).map fun r => V.int (Th.pre cs gg r)))) ⟨fun b o hb e => by rw [upd_ne hb]; exact e, by rw [upd_same]; rfl⟩ ?_ ?_⟩
    · rintro i H' hi ⟨kp, hD'⟩
      have hi' : i < cs.length := by simpa using hi
      have ntD : t ≠ D := ne_of_none t2 hD
      have t3 := kp _ _ ntD t2
      refine ⟨rfl, ?_⟩
      have dn : ∀ b u, H' b = some u → D ≠ b → True := fun _ _ _ _ => trivial
      -- the last heap, from the one behind the slice
      have fin : ∀ H4, Same H' H4 → ∃ acc, H4 D = some (.lst acc) ∧ acc.length < sizeLine ∧ (∀ b o, b ≠ D → H2 b = some o → upd H4 D (.lst (acc ++ [V.int (((cs.take i).sum) + gg * (i : Int))])) b = some o) ∧ upd H4 D (.lst (acc ++ [V.int (((cs.take i).sum) + gg * (i : Int))])) D = some (.lst ((List.range (i + 1)).map fun r => V.int (Th.pre cs gg r))) := fun H4 s4 =>
        ⟨_, s4 _ _ hD', small1000 (by rw [List.length_map, List.length_range]; omega), fun b o hb e => by rw [upd_ne hb]; exact s4 _ _ (kp b o hb e), by rw [upd_same, List.range_succ, List.map_append]; rfl⟩
      have ei : (0 : Int) + (i : Int) = (i : Int) := by omega
      refine ⟨_, rfl, _, rfl, (i : Int), congrArg V.int ei, t, _, rfl, SqT.of t3, fun q => ?_, fun _ q hq => ?_⟩
      · rw [HT.sIx_nat, List.length_map] at q
        omega
      · refine ⟨q, cs.take i, rfl, SqT.of (by rw [upd_same, cut_pre (by omega)]), _, rfl, _, rfl, gg, (i : Int), rfl, congrArg V.int ei, .inl ⟨by omega, by omega⟩, _, _, rfl, rfl, fin _ (same_upd hq)⟩
    · rintro H' ⟨kp, hD'⟩
      have nxD : x ≠ D := ne_of_none hx2 hD
      refine ⟨_, rfl, x, _, dx, _, rfl, kp _ _ nxD hx2, T.cl_Drift, T.na_Drift__sums, by show 2 < 1000; decide, ?_⟩
      have hl : (((cs.map V.int).length : Nat) : Int).toNat = cs.length := by rw [List.length_map]; omega
      rw [hl] at hD'
      refine k _ ?_ ⟨⟨c, g0, g1⟩, dx, D, by rw [upd_same]; rfl, by rw [upd_ne nxD.symm]; exact hD'⟩
      intro b o hb e
      rw [upd_ne hb]
      exact kp _ _ (ne_of_none (fr2 b o hb e) hD) (fr2 b o hb e)
end
end W6

namespace W6
open PySem PySem.Spec PyProof.Rows L2 Ru StX
section
variable {P : Program} {w : World} {K : PySem.W.Frag} {mg : Str → Option Value} {base : Heap} {a : Ad}
theorem ok_Drift_sum_to (T : Txt K mg a) : FnOk P w K mg base CX0 1 a.f_Drift_sum_to a.d_Drift_sum_to ["self", "tick"] (spSum a) := by
  refine T.F_Drift_sum_to.ok sc_Drift_sum_to (fun vs H Q E h => ?_) (fun cdv A outer s H vs Q E hr h => ?_)
  · obtain ⟨x, t, cs, gg, rfl, _⟩ := h
    rfl
  · obtain ⟨x, t, cs, gg, rfl, ⟨⟨c, g0, g1⟩, dx, l, hx, hl⟩, k⟩ := h
    obtain ⟨c1, c2, c3⟩ := id c
    refine ⟨_, (pss_cons (ps_asg (pe_callB call_divmod (by rfl) T.z_divmod (by decide +kernel) (pa_cons (pv 1) (pa_cons (pe_fld (pv 0) rfl) pa_nil))) (pg_tup rfl (pgs_cons (pg_name (i := 2) sc_Drift_sum_to.nd rfl (Or.inl rfl)) (pgs_cons (pg_name (i := 3) sc_Drift_sum_to.nd rfl (Or.inl rfl)) pgs_nil))))
      (pss_one (ps_ret (pe_op op_add (pe_op op_mul (pv 2) (pe_fld (pv 0) rfl)) (pe_ix ix_list (pe_fld (pv 0) rfl) (pv 3) (fun _ _ => rfl)))))), ?_⟩
    refine ⟨_, rfl, _, rfl, x, _, dx, _, _, rfl, hx, T.cl_Drift, T.na_Drift_round_ticks, rfl, _, _, rfl, ⟨by omega, by omega⟩, fun p hp => ?_⟩
    have sm := same_upd (o := .tup [.int ((t : Int) / (cs.length : Int)), .int ((t : Int) % (cs.length : Int))]) hp
    have hx2 := sm _ _ hx
    have hl2 := sm _ _ hl
    refine ⟨p, _, rfl, SqT.of upd_same, rfl, _, _, rfl, _, _, rfl, rfl, ?_⟩
    have rb := rsum_bd c g0 g1
    have m0 : 0 ≤ (t : Int) % (cs.length : Int) := Int.emod_nonneg _ (by omega)
    have m1 : ((t : Int) % (cs.length : Int)).toNat < cs.length := by have := Int.emod_lt_of_pos (t : Int) (show (0 : Int) < cs.length by omega); omega
    refine ⟨_, rfl, _, rfl, x, _, dx, _, _, rfl, hx2, T.cl_Drift, T.na_Drift_round_sum, rfl, _, _, rfl, rfl, .inr ⟨by omega, by omega⟩, _, rfl, x, _, dx, _, _, rfl, hx2, T.cl_Drift, T.na_Drift__sums, rfl, _, rfl, l, _, _, _, rfl, rfl, SqL.of hl2, at_int m0 (sums_at m1), _, _, rfl, rfl, ?_⟩
    have e : Th.sumTo cs gg t = (t : Int) / (cs.length : Int) * Th.rsum cs gg + Th.pre cs gg ((t : Int) % (cs.length : Int)).toNat := Th.sumTo_eq c1 t
    have q := k _ sm
    rw [e] at q
    exact q
theorem ok_both_drifts (T : Txt K mg a) : FnOk P w K mg base CX0 3 a.f_both_drifts a.d_both_drifts ["changes", "gain"] (spBoth a) := by
  have G_Drift_init : FnOk P w K mg base CX0 1 a.f_Drift_init a.d_Drift_init ["self", "changes", "gain"] (spDi a) := ok_Drift_init T
  refine T.F_both_drifts.ok sc_both_drifts (fun vs H Q E h => ?_) (fun cdv A outer s H vs Q E hr h => ?_)
  · obtain ⟨t, cs, g, rfl, _⟩ := h
    rfl
  · obtain ⟨t, cs, g, rfl, ht, c, g1, g2, k⟩ := h
    refine ⟨_, (pss_one (ps_ret (pe_tup (pa_cons (pe_make T.mk_Drift G_Drift_init (hr.mono (by decide)) (by rfl) T.mg_Drift (b_Drift_init T) .nil pass0 (pa_cons (pv 0) (pa_cons pe_int pa_nil))) (pa_cons (pe_make T.mk_Drift G_Drift_init (hr.mono (by decide)) (by rfl) T.mg_Drift (b_Drift_init T) .nil pass0 (pa_cons (pv 0) (pa_cons (pv 1) pa_nil))) pa_nil))))), ?_⟩
    refine ⟨_, rfl, fun x dx nx nd ne => ⟨x, dx, t, cs, 0, rfl, upd_same, same_made nx nd _ _ ht, c, by omega, by omega, fun H1 fr d0 => ⟨rfl, ?_⟩⟩⟩
    have s1 := Fr1.made nx nd fr
    refine ⟨_, rfl, _, rfl, fun x2 dx2 nx2 nd2 ne2 => ⟨x2, dx2, t, cs, g, rfl, upd_same, same_made nx2 nd2 _ _ (s1 _ _ ht), c, by omega, g2, fun H2 fr2 d1 => ⟨rfl, by show 2 ≤ sizeLine; decide, fun p hp => ?_⟩⟩⟩
    have s2 := Fr1.made nx2 nd2 fr2
    have s3 := same_upd (o := .tup [.ref x, .ref x2]) hp
    exact k p _ ((s1.trans s2).trans s3) ⟨x, x2, upd_same, (d0.same s2).same s3, d1.same s3⟩
theorem ok_Stretch_init (T : Txt K mg a) : FnOk P w K mg base CX0 2 a.f_Stretch_init a.d_Stretch_init ["self", "drifts", "on", "begin", "degrees"] (spSi a) := by
  have G_Drift_sum_to : FnOk P w K mg base CX0 1 a.f_Drift_sum_to a.d_Drift_sum_to ["self", "tick"] (spSum a) := ok_Drift_sum_to T
  refine T.F_Stretch_init.ok sc_Stretch_init (fun vs H Q E h => ?_) (fun cdv A outer s H vs Q E hr h => ?_)
  · obtain ⟨S, x, dx, td, cs, g, d, on, b, rfl, _⟩ := h
    rfl
  · obtain ⟨S, x, dx, td, cs, g, d, on, b, rfl, hx, nxS, ddS, k⟩ := h
    have dd : DDs a H td cs g := ddS.same del_same
    refine ⟨_, (pss_cons (ps_fld (pv 0) (pv 2) rfl)
      (pss_cons (ps_fld (pv 0) (pv 3) rfl)
      (pss_cons (ps_fld (pv 0) (pv 1) rfl)
      (pss_cons (ps_fld (pv 0) (pe_ifExp (pt_val (pv 2)) (pe_ix ix_tup (pv 1) pe_int (fun _ _ => rfl)) (pe_ix ix_tup (pv 1) pe_int (fun _ _ => rfl))) rfl)
      (pss_one (ps_fld (pv 0) (pe_op op_sub (pv 4) (pe_meth (pe_fld (pv 0) rfl) T.cl_Drift T.me_Drift_sum_to G_Drift_sum_to (hr.mono (by decide)) (b_Drift_sum_to T) .nil pass0 (pa_cons (pv 3) pa_nil))) rfl)))))), ?_⟩
    obtain ⟨d0, d1, htdS, hd0S, hd1S⟩ := id ddS
    have htd := del_same _ _ htdS
    have hd0 := hd0S.same del_same
    have hd1 := hd1S.same del_same
    have ntx : td ≠ x := ne_of htd hx (fun z => nomatch z)
    have n0 : d0 ≠ x := by
      obtain ⟨_, _, _, h, _⟩ := hd0
      exact ne_of h hx (fun z => by injection z with z1 z2 z3; cases z3)
    have n1 : d1 ≠ x := by
      obtain ⟨_, _, _, h, _⟩ := hd1
      exact ne_of h hx (fun z => by injection z with z1 z2 z3; cases z3)
    refine ⟨_, rfl, _, rfl, x, _, dx, _, rfl, hx, T.cl_Stretch, T.na_Stretch_on, by show 0 < 1000; decide, ?_⟩
    refine ⟨_, rfl, _, rfl, x, _, dx, _, rfl, upd_same, T.cl_Stretch, T.na_Stretch_begin, by show 1 < 1000; decide, ?_⟩
    refine ⟨_, rfl, _, rfl, x, _, dx, _, rfl, upd_same, T.cl_Stretch, T.na_Stretch__drifts, by show 2 < 1000; decide, ?_⟩
    generalize hH2 : upd _ x (HO.ins a.c_Stretch dx (putF (Str.ofString "_drifts") _ _)) = H2
    have hx2 : H2 x = some (.ins a.c_Stretch dx [("on", .bl on), ("begin", .int b), ("_drifts", .ref td)]) := by rw [← hH2, upd_same]; rfl
    have fr2 : Fr1 x H H2 := by rw [← hH2]; exact (Fr1.upd.trans Fr1.upd).trans Fr1.upd
    have htd2 := fr2 _ _ ntx htd
    have fin : ∀ (dd' : Addr), DAt a (del H S) dd' cs (Th.gon g on) → dd' ≠ x → ∀ H4, Same (upd H2 x (.ins a.c_Stretch dx [("on", .bl on), ("begin", .int b), ("_drifts", .ref td), ("_drift", .ref dd')])) H4 →
        Q .non (upd H4 x (.ins a.c_Stretch dx [("on", .bl on), ("begin", .int b), ("_drifts", .ref td), ("_drift", .ref dd'), ("_base", .int (d - Th.sumTo cs (Th.gon g on) b))])) := fun dd' hd' ne H4 sm => by
      have fr : Fr1 x H (upd H4 x (.ins a.c_Stretch dx [("on", .bl on), ("begin", .int b), ("_drifts", .ref td), ("_drift", .ref dd'), ("_base", .int (d - Th.sumTo cs (Th.gon g on) b))])) := ((fr2.trans Fr1.upd).trans (Fr1.of sm)).trans Fr1.upd
      have hF : upd H4 x (.ins a.c_Stretch dx [("on", .bl on), ("begin", .int b), ("_drifts", .ref td), ("_drift", .ref dd'), ("_base", .int (d - Th.sumTo cs (Th.gon g on) b))]) x = _ := upd_same
      generalize upd H4 x _ = HF at *
      have dat : ∀ {z : Addr} {gg : Int}, DAt a (del H S) z cs gg → z ≠ x → DAt a (del HF S) z cs gg := fun ⟨q1, q2, q3, q4, q5⟩ nz => ⟨q1, q2, q3, fr.del _ _ nz q4, fr.del _ _ (ne_of (del_same _ _ q5) hx (fun z => nomatch z)) q5⟩
      exact k _ fr ⟨dx, td, dd', (del_in nxS).trans hF, ⟨d0, d1, fr.del _ _ ntx htdS, dat hd0S n0, dat hd1S n1⟩, dat hd' ne⟩
    cases on with
    | true =>
      refine ⟨_, rfl, _, rfl, _, rfl, td, _, _, _, rfl, rfl, SqT.of htd2, rfl, _, rfl, x, _, dx, _, rfl, hx2, T.cl_Stretch, T.na_Stretch__drift, by show 3 < 1000; decide, ?_⟩
      obtain ⟨q1, ddx, dl, q4, q5⟩ := id hd1
      have hx3 : (upd H2 x (.ins a.c_Stretch dx (putF (Str.ofString "_drift") (.ref d1) [("on", .bl true), ("begin", .int b), ("_drifts", .ref td)]))) x = some (.ins a.c_Stretch dx [("on", .bl true), ("begin", .int b), ("_drifts", .ref td), ("_drift", .ref d1)]) := by rw [upd_same]; rfl
      have d3 : DAt a (upd H2 x (.ins a.c_Stretch dx (putF (Str.ofString "_drift") (.ref d1) [("on", .bl true), ("begin", .int b), ("_drifts", .ref td)]))) d1 cs g := ⟨q1, ddx, dl, (fr2.trans Fr1.upd) _ _ n1 q4, (fr2.trans Fr1.upd) _ _ (ne_of q5 hx (fun z => nomatch z)) q5⟩
      obtain ⟨_, ddx3, dl3, q43, _⟩ := id d3
      refine ⟨_, rfl, _, rfl, x, _, dx, _, _, rfl, hx3, T.cl_Stretch, T.na_Stretch__drift, rfl, d1, ddx3, _, rfl, q43, rfl, _, rfl, d1, b, cs, g, rfl, d3, fun H4 sm => ⟨_, _, rfl, rfl, _, rfl, x, _, dx, _, rfl, sm _ _ hx3, T.cl_Stretch, T.na_Stretch__base, by show 4 < 1000; decide, ?_⟩⟩
      exact fin d1 hd1S n1 H4 sm
    | false =>
      refine ⟨_, rfl, _, rfl, _, rfl, td, _, _, _, rfl, rfl, SqT.of htd2, rfl, _, rfl, x, _, dx, _, rfl, hx2, T.cl_Stretch, T.na_Stretch__drift, by show 3 < 1000; decide, ?_⟩
      obtain ⟨q1, ddx, dl, q4, q5⟩ := id hd0
      have hx3 : (upd H2 x (.ins a.c_Stretch dx (putF (Str.ofString "_drift") (.ref d0) [("on", .bl false), ("begin", .int b), ("_drifts", .ref td)]))) x = some (.ins a.c_Stretch dx [("on", .bl false), ("begin", .int b), ("_drifts", .ref td), ("_drift", .ref d0)]) := by rw [upd_same]; rfl
      have d3 : DAt a (upd H2 x (.ins a.c_Stretch dx (putF (Str.ofString "_drift") (.ref d0) [("on", .bl false), ("begin", .int b), ("_drifts", .ref td)]))) d0 cs 0 := ⟨q1, ddx, dl, (fr2.trans Fr1.upd) _ _ n0 q4, (fr2.trans Fr1.upd) _ _ (ne_of q5 hx (fun z => nomatch z)) q5⟩
      obtain ⟨_, ddx3, dl3, q43, _⟩ := id d3
      refine ⟨_, rfl, _, rfl, x, _, dx, _, _, rfl, hx3, T.cl_Stretch, T.na_Stretch__drift, rfl, d0, ddx3, _, rfl, q43, rfl, _, rfl, d0, b, cs, 0, rfl, d3, fun H4 sm => ⟨_, _, rfl, rfl, _, rfl, x, _, dx, _, rfl, sm _ _ hx3, T.cl_Stretch, T.na_Stretch__base, by show 4 < 1000; decide, ?_⟩⟩
      exact fin d0 hd0S n0 H4 sm
end
end W6

namespace W6
open PySem PySem.Spec PyProof.Rows L2 Ru StX
section
variable {P : Program} {w : World} {K : PySem.W.Frag} {mg : Str → Option Value} {base : Heap} {a : Ad}
theorem ok_Stretch_degrees_at (T : Txt K mg a) : FnOk P w K mg base CX0 2 a.f_Stretch_degrees_at a.d_Stretch_degrees_at ["self", "tick"] (spDeg a) := by
  have G_Drift_sum_to : FnOk P w K mg base CX0 1 a.f_Drift_sum_to a.d_Drift_sum_to ["self", "tick"] (spSum a) := ok_Drift_sum_to T
  refine T.F_Stretch_degrees_at.ok sc_Stretch_degrees_at (fun vs H Q E h => ?_) (fun cdv A outer s H vs Q E hr h => ?_)
  · obtain ⟨x, t, b, cs, g, base', on, rfl, _⟩ := h
    rfl
  · obtain ⟨x, t, b, cs, g, base', on, rfl, ⟨dx, td, d, hx, dd, hd⟩, k⟩ := h
    refine ⟨_, (pss_one (ps_ret (pe_op op_add (pe_fld (pv 0) rfl) (pe_meth (pe_fld (pv 0) rfl) T.cl_Drift T.me_Drift_sum_to G_Drift_sum_to (hr.mono (by decide)) (b_Drift_sum_to T) .nil pass0 (pa_cons (pv 1) pa_nil))))), ?_⟩
    obtain ⟨_, ddx, dl, q4, _⟩ := id hd
    exact ⟨_, rfl, x, _, dx, _, _, rfl, hx, T.cl_Stretch, T.na_Stretch__base, rfl, _, rfl, x, _, dx, _, _, rfl, hx, T.cl_Stretch, T.na_Stretch__drift, rfl, d, ddx, _, rfl, q4, rfl, _, rfl, d, t, cs, _, rfl, hd, fun H' sm => ⟨_, _, rfl, rfl, k H' sm⟩⟩
theorem ok_Stretch_begin_state (T : Txt K mg a) : FnOk P w K mg base CX0 3 a.f_Stretch_begin_state a.d_Stretch_begin_state ["self"] (spState a) := by
  have G_Stretch_degrees_at : FnOk P w K mg base CX0 2 a.f_Stretch_degrees_at a.d_Stretch_degrees_at ["self", "tick"] (spDeg a) := ok_Stretch_degrees_at T
  refine T.F_Stretch_begin_state.ok sc_Stretch_begin_state (fun vs H Q E h => ?_) (fun cdv A outer s H vs Q E hr h => ?_)
  · obtain ⟨x, b, cs, g, base', on, rfl, _⟩ := h
    rfl
  · obtain ⟨x, b, cs, g, base', on, rfl, st, k⟩ := h
    refine ⟨_, (pss_one (ps_ret (pe_tup (pa_cons (pe_op op_mod (pe_fld (pv 0) rfl) (pe_fld (pe_fld (pv 0) rfl) rfl)) (pa_cons (pe_meth (pv 0) T.cl_Stretch T.me_Stretch_degrees_at G_Stretch_degrees_at (hr.mono (by decide)) (b_Stretch_degrees_at T) .nil pass0 (pa_cons (pe_fld (pv 0) rfl) pa_nil)) (pa_cons (pe_fld (pv 0) rfl) pa_nil)))))), ?_⟩
    obtain ⟨dx, td, d, hx, dd, hd⟩ := id st
    obtain ⟨⟨⟨c1, _, _⟩, _, _⟩, ddx, dl, q4, _⟩ := id hd
    refine ⟨_, rfl, x, _, dx, _, _, rfl, hx, T.cl_Stretch, T.na_Stretch_begin, rfl, _, rfl, x, _, dx, _, _, rfl, hx, T.cl_Stretch, T.na_Stretch__drift, rfl, d, _, ddx, _, _, rfl, q4, T.cl_Drift, T.na_Drift_round_ticks, rfl, _, _, rfl, rfl, by show (0 : Int) < (cs.length : Int); omega, ?_⟩
    refine ⟨_, rfl, x, dx, _, rfl, hx, rfl, _, rfl, x, _, dx, _, _, rfl, hx, T.cl_Stretch, T.na_Stretch_begin, rfl, x, b, b, cs, g, base', on, rfl, st, fun H' sm => ?_⟩
    refine ⟨_, rfl, x, _, dx, _, _, rfl, sm _ _ hx, T.cl_Stretch, T.na_Stretch_on, rfl, by show 3 ≤ sizeLine; decide, fun p hp => ?_⟩
    exact k p _ (sm.trans (same_upd hp)) (sm.free hp) upd_same
theorem ok_Stretch_switched (T : Txt K mg a) : FnOk P w K mg base CX0 4 a.f_Stretch_switched a.d_Stretch_switched ["self", "tick"] (spSwitched a) := by
  have G_Stretch_degrees_at : FnOk P w K mg base CX0 2 a.f_Stretch_degrees_at a.d_Stretch_degrees_at ["self", "tick"] (spDeg a) := ok_Stretch_degrees_at T
  have G_Stretch_init : FnOk P w K mg base CX0 2 a.f_Stretch_init a.d_Stretch_init ["self", "drifts", "on", "begin", "degrees"] (spSi a) := ok_Stretch_init T
  refine T.F_Stretch_switched.ok sc_Stretch_switched (fun vs H Q E h => ?_) (fun cdv A outer s H vs Q E hr h => ?_)
  · obtain ⟨S, x, e, b, cs, g, base', on, rfl, _⟩ := h
    rfl
  · obtain ⟨S, x, e, b, cs, g, base', on, rfl, oc, stS, k⟩ := h
    have st : SAt a H x cs g on b base' := stS.same del_same
    refine ⟨_, (pss_one (ps_ret (pe_make T.mk_Stretch G_Stretch_init (hr.mono (by decide)) (by rfl) T.mg_Stretch (b_Stretch_init T) .nil pass0 (pa_cons (pe_fld (pv 0) rfl) (pa_cons (pe_not (pe_fld (pv 0) rfl)) (pa_cons (pv 1) (pa_cons (pe_meth (pv 0) T.cl_Stretch T.me_Stretch_degrees_at G_Stretch_degrees_at (hr.mono (by decide)) (b_Stretch_degrees_at T) .nil pass0 (pa_cons (pv 1) pa_nil)) pa_nil))))))), ?_⟩
    obtain ⟨dx, td, d, hxS, dd, hd⟩ := id stS
    have hx := del_same _ _ hxS
    refine ⟨_, rfl, x, _, dx, _, _, rfl, hx, T.cl_Stretch, T.na_Stretch__drifts, rfl, _, rfl, x, _, dx, _, _, rfl, hx, T.cl_Stretch, T.na_Stretch_on, rfl, on, rfl, _, rfl, _, rfl, x, dx, _, rfl, hx, rfl, _, rfl, x, e, b, cs, g, base', on, rfl, st, fun H' sm => fun z dz nz nd ne => ?_⟩
    have s2 := same_made (x := z) (dx := dz) (C := a.c_Stretch) nz nd
    have nzS : z ∉ S := fun m => by
      obtain ⟨o, q⟩ := oc z m
      rw [sm _ _ q] at nz; cases nz
    exact ⟨S, z, dz, td, cs, g, _, !on, e, rfl, upd_same, nzS, (dd.same (Same.del sm)).same (Same.del s2), fun H2 fr st2 => ⟨rfl, k z H2 (sm.trans (Fr1.made nz nd fr)) (sm.free nz) st2⟩⟩
theorem ok_Stretch_level_ticks (T : Txt K mg a) : FnOk P w K mg base CX0 1 a.f_Stretch_level_ticks a.d_Stretch_level_ticks ["self"] (spLevel a) := by
  refine T.F_Stretch_level_ticks.ok sc_Stretch_level_ticks (fun vs H Q E h => ?_) (fun cdv A outer s H vs Q E hr h => ?_)
  · obtain ⟨x, b, cs, g, base', on, rfl, _⟩ := h
    rfl
  · obtain ⟨x, b, cs, g, base', on, rfl, ⟨dx, td, d, hx, dd, hd⟩, k⟩ := h
    refine ⟨_, (pss_one (ps_ret (pe_ifExp (pt_cmpR op_eq (pe_fld (pe_fld (pv 0) rfl) rfl) pe_int (nomark _)) (pe_fld (pe_fld (pv 0) rfl) rfl) pe_non))), ?_⟩
    obtain ⟨_, ddx, dl, q4, _⟩ := id hd
    refine ⟨_, rfl, x, _, dx, _, _, rfl, hx, T.cl_Stretch, T.na_Stretch__drift, rfl, d, _, ddx, _, _, rfl, q4, T.cl_Drift, T.na_Drift_round_sum, rfl, rfl, _, rfl, ?_⟩
    by_cases e : Th.rsum cs (Th.gon g on) = 0
    · rw [if_pos e] at k
      refine ifT (dT (by rw [e])) ?_
      exact ⟨_, rfl, x, _, dx, _, _, rfl, hx, T.cl_Stretch, T.na_Stretch__drift, rfl, d, _, ddx, _, _, rfl, q4, T.cl_Drift, T.na_Drift_round_ticks, rfl, k⟩
    · rw [if_neg e] at k
      exact ifF (dF (fun q => e (by injection q))) k
theorem ok_heater_state (T : Txt K mg a) : FnOk P w K mg base CX0 1 a.f_heater_state a.d_heater_state ["degrees", "low", "high", "before"] spHst := by
  refine T.F_heater_state.ok sc_heater_state (fun vs H Q E h => ?_) (fun cdv A outer s H vs Q E hr h => ?_)
  · obtain ⟨d, lo, hi, b, rfl, _⟩ := h
    rfl
  · obtain ⟨d, lo, hi, b, rfl, k⟩ := h
    refine ⟨_, (pss_cons (ps_if (pt_cmpR op_lt (pv 0) (pv 1) (nomark _)) (pss_one (ps_ret pe_bl)) pss_nil)
      (pss_cons (ps_if (pt_cmpR op_gt (pv 0) (pv 2) (nomark _)) (pss_one (ps_ret pe_bl)) pss_nil)
      (pss_one (ps_ret (pv 3))))), ?_⟩
    unfold Th.hst at k
    refine ⟨_, rfl, _, rfl, _, _, rfl, rfl, _, rfl, ?_⟩
    by_cases c : d < lo
    · rw [if_pos c] at k
      exact ifT (dT c) k
    · rw [if_neg c] at k
      refine ifF (dF c) ⟨_, rfl, _, rfl, _, _, rfl, rfl, _, rfl, ?_⟩
      by_cases c2 : d > hi
      · rw [if_pos c2] at k
        exact ifT (dT c2) k
      · rw [if_neg c2] at k
        exact ifF (dF c2) ⟨_, rfl, k⟩
theorem ok_Stretch_first_beyond (T : Txt K mg a) : FnOk P w K mg base CX0 3 a.f_Stretch_first_beyond a.d_Stretch_first_beyond ["self", "bound", "sign"] (spFb a) := by
  have G_Stretch_degrees_at : FnOk P w K mg base CX0 2 a.f_Stretch_degrees_at a.d_Stretch_degrees_at ["self", "tick"] (spDeg a) := ok_Stretch_degrees_at T
  refine T.F_Stretch_first_beyond.ok sc_Stretch_first_beyond (fun vs H Q E h => ?_) (fun cdv A outer s H vs Q E hr h => ?_)
  · obtain ⟨x, b, cs, g, base', bound, sgn, on, rfl, _⟩ := h
    rfl
  · obtain ⟨x, b, cs, g, base', bound, sgn, on, rfl, st, hb, hs, k⟩ := h
    refine ⟨_, (pss_cons (ps_set (i := 3) sc_Stretch_first_beyond.nd rfl (Or.inl rfl) (pe_fld (pe_fld (pv 0) rfl) rfl))
      (pss_cons (ps_set (i := 4) sc_Stretch_first_beyond.nd rfl (Or.inl rfl) (pe_op op_mul (pv 2) (pe_fld (pe_fld (pv 0) rfl) rfl)))
      (pss_cons (ps_set (i := 5) sc_Stretch_first_beyond.nd rfl (Or.inl rfl) (pe_lst pa_nil))
      (pss_cons (ps_for PassesOwn.never rfl (pi_range2 (by rfl) T.z_range (pa_cons (pe_op op_add (pe_fld (pv 0) rfl) pe_int) (pa_cons (pe_op op_add (pe_op op_add (pe_fld (pv 0) rfl) (pv 3)) pe_int) pa_nil))) (pg_name (i := 6) sc_Stretch_first_beyond.nd rfl (Or.inl rfl))
        (pss_cons (ps_set (i := 7) sc_Stretch_first_beyond.nd rfl (Or.inl rfl) (pe_op op_mul (pv 2) (pe_op op_sub (pv 1) (pe_meth (pv 0) T.cl_Stretch T.me_Stretch_degrees_at G_Stretch_degrees_at (hr.mono (by decide)) (b_Stretch_degrees_at T) .nil pass0 (pa_cons (pv 6) pa_nil)))))
      (pss_cons (ps_if (pt_cmpR op_lt (pv 7) pe_int (nomark _)) (pss_one (ps_ret (pv 6))) pss_nil)
      (pss_one (ps_if (pt_cmpR op_gt (pv 4) pe_int (nomark _)) (pss_one (ps_expr (pe_bm PySem.F.plainAttrs_list PySem.F.slot_list_append PySem.F.type_list_append mt_append (pv 5) (pa_cons (pe_op op_add (pv 6) (pe_op op_mul (pe_op op_add (pe_op op_fdiv (pv 7) (pv 4)) pe_int) (pv 3))) pa_nil)))) pss_nil)))))
      (pss_one (ps_ret (pe_callBK (cr_minD rfl (hu_of hr)) (by rfl) T.z_min (by decide +kernel) (pa_cons (pv 5) pa_nil) (pk_cons pe_non pk_nil)))))))), ?_⟩
    obtain ⟨dx, td, d, hx, dd, hd⟩ := id st
    obtain ⟨⟨c, g0, g1⟩, ddx, dl, q4, _⟩ := id hd
    obtain ⟨c1, c2, c3⟩ := id c
    have rb := rsum_bd c g0 g1
    generalize hgg : Th.gon g on = gg at *
    have sb : -10000 ≤ sgn * Th.rsum cs gg ∧ sgn * Th.rsum cs gg ≤ 10000 := by
      rcases hs with rfl | rfl <;> omega
    refine ⟨_, rfl, x, _, dx, _, _, rfl, hx, T.cl_Stretch, T.na_Stretch__drift, rfl, d, _, ddx, _, _, rfl, q4, T.cl_Drift, T.na_Drift_round_ticks, rfl, ?_⟩
    refine ⟨_, rfl, _, rfl, x, _, dx, _, _, rfl, hx, T.cl_Stretch, T.na_Stretch__drift, rfl, d, _, ddx, _, _, rfl, q4, T.cl_Drift, T.na_Drift_round_sum, rfl, _, _, rfl, rfl, .inr ⟨by omega, by omega⟩, ?_⟩
    refine ⟨Nat.zero_le _, fun q hq => ?_⟩
    have s1 := same_upd (o := .lst []) hq
    have hx1 := s1 _ _ hx
    refine ⟨_, rfl, x, _, dx, _, _, rfl, hx1, T.cl_Stretch, T.na_Stretch_begin, rfl, _, _, rfl, rfl, _, rfl, x, _, dx, _, _, rfl, hx1, T.cl_Stretch, T.na_Stretch_begin, rfl, _, rfl, _, _, rfl, rfl, _, _, rfl, rfl, _, _, rfl, ⟨by omega, by omega, by omega, by omega⟩, ?_⟩
    have en : ((b : Int) + (cs.length : Int) + 1 - ((b : Int) + 1)).toNat = cs.length := by omega
    refine for_range (lo := (b : Int) + 1) (n := ((b : Int) + (cs.length : Int) + 1 - ((b : Int) + 1)).toNat) (fun i σ H' => ∃ u v : Option V, σ = [some (.ref x), some (.int bound), some (.int sgn), some (.int cs.length), some (.int (sgn * Th.rsum cs gg)), some (.ref q), u, v] ∧ Same H H' ∧
      H' q = some (.lst (if 0 < sgn * Th.rsum cs gg then (List.range i).map (fun j => V.int (Th.cand cs gg base' b sgn bound j)) else [])) ∧ ∀ j, j < i → ¬ Th.Bey sgn bound (Th.Dg cs gg base' (b + 1 + j)))
      ⟨none, none, rfl, s1, by rw [upd_same]; split <;> rfl, fun j hj => by omega⟩ ?_ ?_
    · rintro i σ H' hi ⟨u, v, rfl, sm, hq', nb⟩
      rw [en] at hi
      have et : (b : Int) + 1 + (i : Int) = ((b + 1 + i : Nat) : Int) := by omega
      refine ⟨_, rfl, _, rfl, _, rfl, x, dx, _, rfl, sm _ _ hx, rfl, _, rfl, x, b + 1 + i, b, cs, g, base', on, by rw [← et]; rfl, st.same sm, fun H2 sm2 => ?_⟩
      rw [hgg]
      have hq2 := sm2 _ _ hq'
      refine ⟨_, _, rfl, rfl, _, _, rfl, rfl, .inl ⟨by omega, by omega⟩, ?_⟩
      refine ⟨_, rfl, _, _, rfl, rfl, _, rfl, ?_⟩
      by_cases bey : Th.Bey sgn bound (Th.Dg cs gg base' (b + 1 + i))
      · refine ifT (dT bey) ⟨_, rfl, ?_⟩
        have z := k (some (b + 1 + i)) H2 (sm.trans sm2) (Th.fb_hit nb bey)
        rw [et]
        exact z
      · refine ifF (dF bey) ?_
        have nb2 : ∀ j, j < i + 1 → ¬ Th.Bey sgn bound (Th.Dg cs gg base' (b + 1 + j)) := fun j hj => by
          by_cases e : j = i
          · rw [e]; exact bey
          · exact nb j (by omega)
        refine ⟨_, rfl, _, _, rfl, rfl, _, rfl, ?_⟩
        by_cases sp : 0 < sgn * Th.rsum cs gg
        · refine ifT (dT sp) ?_
          rw [if_pos sp] at hq2
          have gp : 0 ≤ sgn * (bound - Th.Dg cs gg base' (b + 1 + i)) := by
            have := bey
            unfold Th.Bey at this
            omega
          refine ⟨_, rfl, .inl ⟨rfl, _, SqL.of hq2⟩, _, rfl, _, rfl, _, rfl, _, _, rfl, rfl, ⟨sp, by omega⟩, _, _, rfl, rfl, _, rfl, _, _, rfl, rfl, .inr ⟨by omega, by omega⟩, _, _, rfl, rfl, q, _, _, rfl, rfl, hq2, small1000 (by rw [List.length_map, List.length_range]; omega), ?_⟩
          refine ⟨_, _, rfl, fun b' o e => ?_, ?_, nb2⟩
          · rw [upd_ne (ne_of_none e hq)]
            exact sm2 _ _ (sm _ _ e)
          · rw [upd_same, if_pos sp, List.range_succ, List.map_append]
            have ec : (b : Int) + 1 + (i : Int) + (sgn * (bound - Th.Dg cs gg base' (b + 1 + i)) / (sgn * Th.rsum cs gg) + 1) * (cs.length : Int) = ((Th.cand cs gg base' b sgn bound i : Nat) : Int) := by
              unfold Th.cand
              have h0 : 0 ≤ sgn * (bound - Th.Dg cs gg base' (b + 1 + i)) / (sgn * Th.rsum cs gg) := Int.ediv_nonneg gp (by omega)
              rw [Int.natCast_add, Int.natCast_mul, Int.toNat_of_nonneg (by omega)]
              omega
            rw [List.map_singleton, ← ec]
        · refine ifF (dF sp) ?_
          rw [if_neg sp] at hq2
          exact ⟨_, _, rfl, sm.trans sm2, by rw [if_neg sp]; exact hq2, nb2⟩
    · rintro σ H' ⟨u, v, rfl, sm, hq', nb⟩
      rw [en] at hq' nb
      by_cases sp : 0 < sgn * Th.rsum cs gg
      · rw [if_pos sp] at hq'
        have eq' : (List.range cs.length).map (fun j => V.int (Th.cand cs gg base' b sgn bound j)) = ((List.range cs.length).map fun j => ((Th.cand cs gg base' b sgn bound j : Nat) : Int)).map V.int := by
          rw [List.map_map]; rfl
        rw [eq'] at hq'
        refine ⟨_, rfl, q, _, .non, rfl, rfl, SqL.of hq', fun e => ?_, fun m hm hle => ?_⟩
        · have := congrArg List.length e
          rw [List.length_map, List.length_range] at this
          exact absurd (show cs.length = 0 from this) (by omega)
        · obtain ⟨i, hi, rfl⟩ := List.mem_map.mp hm
          have hi' := List.mem_range.mp hi
          exact k (some (Th.cand cs gg base' b sgn bound i)) H' sm (Th.fb_some c1 sp nb ⟨i, hi', rfl⟩ fun j hj => by
            have := hle _ (List.mem_map.mpr ⟨j, List.mem_range.mpr hj, rfl⟩)
            omega)
      · rw [if_neg sp] at hq'
        refine ⟨_, rfl, q, [], .non, rfl, rfl, SqL.of hq', fun _ => k none H' sm (Th.fb_none c1 (by omega) nb), fun m hm => by cases hm⟩
end
end W6

/-! the whole course: plain Lean -/
namespace Th
/-- what the begins of the stretches and the repetition say -/
structure CourseOk (p : Par) (bs : List Nat) (back : Option Nat) : Prop where
  ok : p.Ok
  chain : Chain p bs
  len : bs.length ≤ 9602
  far : ∀ (i b : Nat), bs[i]? = some b → b ≤ 480100000000000000
  fin : back = none → Dis p bs bs.length ∧ ∃ b, bs[bs.length - 1]? = some b ∧ Nev p b
  rep : ∀ k, back = some k → Dis p bs (bs.length - 1) ∧ k + 1 < bs.length ∧ ∃ f l, bs[k]? = some f ∧ bs[bs.length - 1]? = some l ∧ stt p f = stt p l
/-- how late the stretches begin -/
theorem begins {bs : List Nat} (h : ∀ i b c, bs[i]? = some b → bs[i + 1]? = some c → c ≤ b + SB) (h0 : bs[0]? = some 0) : ∀ i b, bs[i]? = some b → b ≤ i * SB
  | 0, b, e => by rw [h0] at e; cases e; exact Nat.zero_le _
  | i + 1, b, e => by
    obtain ⟨a, ha⟩ := at_some (bs := bs) (i := i) (by have := at_lt e; omega)
    have := begins h h0 i a ha
    have := h i a b ha e
    rw [Nat.succ_mul]
    omega
theorem Dis.snoc {p : Par} {bs : List Nat} {b : Nat} (d : Dis p bs bs.length) (h : ∀ a : Nat, a ∈ bs → stt p a ≠ stt p b) : Dis p (bs ++ [b]) (bs.length + 1) := fun i j a c hij hj h1 h2 => by
  rw [List.getElem?_append_left (by omega)] at h1
  by_cases e : j < bs.length
  · rw [List.getElem?_append_left e] at h2
    exact d i j a c hij e h1 h2
  · rw [List.getElem?_append_right (by omega), show j - bs.length = 0 by omega] at h2
    cases h2
    exact h a (List.mem_of_getElem? h1)
theorem Dis.app {p : Par} {bs : List Nat} {b : Nat} (d : Dis p bs bs.length) : Dis p (bs ++ [b]) bs.length := fun i j a c hij hj h1 h2 => by
  rw [List.getElem?_append_left (by omega)] at h1
  rw [List.getElem?_append_left hj] at h2
  exact d i j a c hij hj h1 h2
theorem last_app {α : Type} {bs : List α} {b : α} : (bs ++ [b])[(bs ++ [b]).length - 1]? = some b := by
  rw [List.length_append, List.length_singleton, Nat.add_sub_cancel, List.getElem?_append_right (Nat.le_refl _), Nat.sub_self]; rfl
/-- the next stretch's temperature is the same line's -/
theorem baB_next {p : Par} {b e : Nat} (n : Nx p b e) : Dg p.ch (ggB p b) (baB p b) e = deg p e := by
  rw [Dg_B]
  obtain ⟨h1, r, _⟩ := n
  have := run_deg (by omega) r
  unfold DD; omega
theorem far_of {bs : List Nat} (h : ∀ (i b c : Nat), bs[i]? = some b → bs[i + 1]? = some c → c ≤ b + SB) (h0 : bs[0]? = some 0) (l : bs.length ≤ 9602) : ∀ (i b : Nat), bs[i]? = some b → b ≤ 480100000000000000 := fun i b e => by
  have q := begins h h0 i b e
  have l2 := at_lt e
  have : i * SB ≤ 9602 * SB := Nat.mul_le_mul_right _ (by omega)
  have e : 9602 * SB = 480100000000000000 := rfl
  omega
/-- where a tick is: how often all has been repeated, the stretch, and the tick before that -/
structure Pl (p : Par) (bs : List Nat) (back : Option Nat) (t r i t' : Nat) : Prop where
  at' : ∃ b, bs[i]? = some b ∧ b ≤ t' ∧ ∀ c, bs[i + 1]? = some c → t' < c
  non : back = none → r = 0 ∧ t' = t
  som : ∀ k f l, back = some k → bs[k]? = some f → bs[bs.length - 1]? = some l → t = t' + r * (l - f) ∧ t' < l ∧ (0 < r → f ≤ t')
theorem CourseOk.per {p : Par} {bs : List Nat} {back : Option Nat} (h : CourseOk p bs back) {k f l : Nat} (e : back = some k) (hf : bs[k]? = some f) (hl : bs[bs.length - 1]? = some l) : f < l ∧ Per p f (l - f) := by
  obtain ⟨_, kl, f', l', hf', hl', st⟩ := h.rep k e
  rw [hf] at hf'; cases hf'
  rw [hl] at hl'; cases hl'
  have lt := h.chain.lt' (show k < bs.length - 1 by omega) hf hl
  exact ⟨lt, per_of st (Nat.le_of_lt lt)⟩
/-- the heater in the stretch, and back to the tick -/
theorem Pl.stay {p : Par} {bs : List Nat} {back : Option Nat} {t r i t' b : Nat} (h : CourseOk p bs back) (q : Pl p bs back t r i t') (hb : bs[i]? = some b) : b ≤ t' ∧ Run p b (t' + 1) := by
  obtain ⟨b', hb', le, nxt⟩ := q.at'
  rw [hb] at hb'; cases hb'
  refine ⟨le, fun u h1 h2 => ?_⟩
  by_cases c : i + 1 < bs.length
  · obtain ⟨e, he⟩ := at_some c
    have := nxt e he
    exact (h.chain.2 i b e hb he).2.1 u h1 (by omega)
  · have il := at_lt hb
    have ei : i = bs.length - 1 := by omega
    subst ei
    cases eb : back with
    | none =>
      obtain ⟨_, b', hb', nv⟩ := h.fin eb
      rw [hb] at hb'; cases hb'
      exact nv u h1
    | some k =>
      obtain ⟨_, kl, f', l', hf', hl', st⟩ := h.rep k eb
      have := (q.som k f' l' eb hf' hl').2.1
      rw [hb] at hl'; cases hl'
      omega
theorem Pl.again {p : Par} {bs : List Nat} {back : Option Nat} {t r i t' : Nat} (h : CourseOk p bs back) (q : Pl p bs back t r i t') : traj p t = traj p t' := by
  cases eb : back with
  | none => rw [(q.non eb).2]
  | some k =>
    obtain ⟨_, kl, f', l', hf', hl', st⟩ := h.rep k eb
    obtain ⟨e1, e2, e3⟩ := q.som k f' l' eb hf' hl'
    obtain ⟨lt, pe⟩ := h.per eb hf' hl'
    by_cases hr : 0 < r
    · rw [e1]; exact pe.times (e3 hr) r
    · have : r = 0 := by omega
      subst this
      rw [e1]; simp
theorem Pl.on {p : Par} {bs : List Nat} {back : Option Nat} {t r i t' b : Nat} (h : CourseOk p bs back) (q : Pl p bs back t r i t') (hb : bs[i]? = some b) : onn p t = onn p b := by
  obtain ⟨le, run⟩ := q.stay h hb
  have e : onn p t = onn p t' := congrArg Prod.snd (q.again h)
  rw [e, run t' le (by omega)]
theorem Pl.heat {p : Par} {bs : List Nat} {back : Option Nat} {t r i t' b : Nat} (h : CourseOk p bs back) (q : Pl p bs back t r i t') (hb : bs[i]? = some b) :
    Hc p t' = Hc p b + (if onn p b then (t' : Int) - b else 0) ∧ (r = 0 → t = t') ∧ ∀ k f l, back = some k → bs[k]? = some f → bs[bs.length - 1]? = some l → 0 < r → Hc p t = Hc p t' + (r : Int) * (Hc p l - Hc p f) := by
  obtain ⟨le, run⟩ := q.stay h hb
  have e := run_heat le (fun u h1 h2 => run u h1 (by omega))
  refine ⟨?_, fun h0 => ?_, fun k f l eb hf hl hr => ?_⟩
  · rw [e]
    split <;> omega
  · subst h0
    cases eb : back with
    | none => exact (q.non eb).2.symm
    | some k =>
      obtain ⟨_, kl, f', l', hf', hl', st⟩ := h.rep k eb
      have := (q.som k f' l' eb hf' hl').1
      simpa using this
  · obtain ⟨e1, e2, e3⟩ := q.som k f l eb hf hl
    obtain ⟨lt, pe⟩ := h.per eb hf hl
    have z := pe.heats (e3 hr) r
    rw [show f + (l - f) = l by omega] at z
    rw [e1]; exact z
theorem Hc_bd (p : Par) : ∀ t, 0 ≤ Hc p t ∧ Hc p t ≤ (t : Int)
  | 0 => ⟨Int.le_refl _, Int.le_refl _⟩
  | t + 1 => by
    have := Hc_bd p t
    have e : Hc p (t + 1) = Hc p t + (if onn p t then 1 else 0) := rfl
    rw [e]
    split <;> omega
theorem Hc_mono (p : Par) (a : Nat) : ∀ d, Hc p a ≤ Hc p (a + d) ∧ Hc p (a + d) ≤ Hc p a + (d : Int)
  | 0 => ⟨Int.le_refl _, by simp⟩
  | d + 1 => by
    have := Hc_mono p a d
    have e : Hc p (a + (d + 1)) = Hc p (a + d) + (if onn p (a + d) then 1 else 0) := rfl
    rw [e]
    split <;> omega
end Th

namespace W6
open PySem PySem.Spec PyProof.Rows L2 Ru StX
section
variable {P : Program} {w : World} {K : PySem.W.Frag} {mg : Str → Option Value} {base : Heap} {a : Ad}
theorem ok_Course_end_of (T : Txt K mg a) : FnOk P w K mg base CX0 4 a.f_Course_end_of a.d_Course_end_of ["self", "stretch"] (spEnd a) := by
  have G_Stretch_first_beyond : FnOk P w K mg base CX0 3 a.f_Stretch_first_beyond a.d_Stretch_first_beyond ["self", "bound", "sign"] (spFb a) := ok_Stretch_first_beyond T
  refine T.F_Course_end_of.ok sc_Course_end_of (fun vs H Q E h => ?_) (fun cdv A outer s H vs Q E hr h => ?_)
  · obtain ⟨c, x, dx, fs, p, b, rfl, _⟩ := h
    rfl
  · obtain ⟨c, x, dx, fs, p, b, rfl, hc, f1, f2, f3, st, hb, k⟩ := h
    refine ⟨_, (pss_cons (ps_if (pt_val (pe_fld (pv 1) rfl)) (pss_one (ps_ret (pe_meth (pv 1) T.cl_Stretch T.me_Stretch_first_beyond G_Stretch_first_beyond (hr.mono (by decide)) (b_Stretch_first_beyond T) .nil pass0 (pa_cons (pe_fld (pv 0) rfl) (pa_cons pe_int pa_nil))))) pss_nil)
      (pss_one (ps_ret (pe_meth (pv 1) T.cl_Stretch T.me_Stretch_first_beyond G_Stretch_first_beyond (hr.mono (by decide)) (b_Stretch_first_beyond T) .nil pass0 (pa_cons (pe_fld (pv 0) rfl) (pa_cons (pe_un un_neg pe_int) pa_nil)))))), ?_⟩
    obtain ⟨ds, td, d, hx, dd, hd⟩ := id st
    refine ⟨_, rfl, x, _, ds, _, _, rfl, hx, T.cl_Stretch, T.na_Stretch_on, rfl, ?_⟩
    unfold Th.sgB Th.bdB Th.ggB at k
    generalize o : Th.onn p b = on at *
    cases on with
    | true => 
      refine ⟨_, rfl, _, rfl, x, ds, _, rfl, hx, rfl, _, rfl, c, _, dx, _, _, rfl, hc, T.cl_Course, T.na_Course__high, f2, x, b, p.ch, p.g, _, p.hi, 1, _, rfl, st, hb, .inl rfl, fun r H' sm f => k r H' sm f⟩
    | false => 
      refine ⟨_, rfl, _, rfl, x, ds, _, rfl, hx, rfl, _, rfl, c, _, dx, _, _, rfl, hc, T.cl_Course, T.na_Course__low, f1, _, rfl, x, b, p.ch, p.g, _, p.lo, -1, _, rfl, st, hb, .inr rfl, fun r H' sm f => k r H' sm f⟩
end
end W6

namespace W6
open PySem PySem.Spec PyProof.Rows L2 Ru StX
def kOf (p : Th.Par) (b : Nat) : SKey := (((b % p.ch.length : Nat) : Int), Th.deg p b, Th.onn p b)
theorem kOf_stt {p : Th.Par} {a b : Nat} (h : kOf p a = kOf p b) : Th.stt p a = Th.stt p b := by
  unfold kOf at h
  unfold Th.stt
  simp only [Prod.mk.injEq] at h ⊢
  exact ⟨by omega, h.2.1, h.2.2⟩
theorem stt_kOf {p : Th.Par} {a b : Nat} (h : Th.stt p a = Th.stt p b) : kOf p a = kOf p b := by
  unfold Th.stt at h
  unfold kOf
  simp only [Prod.mk.injEq] at h ⊢
  exact ⟨by omega, h.2.1, h.2.2⟩
/-- the entries tell the states of the begins -/
def Ents (p : Th.Par) (bs : List Nat) (es : List SEnt) : Prop := es.length = bs.length ∧ ∀ (j : Nat) (e : SEnt) (b : Nat), es[j]? = some e → bs[j]? = some b → e.1 = kOf p b ∧ e.2.2 = (j : Int)
theorem ents_none {p : Th.Par} {bs : List Nat} {es : List SEnt} (h : Ents p bs es) {k : SKey} (n : lookS es k = none) : ∀ b, b ∈ bs → kOf p b ≠ k := fun b hb ek => by
  obtain ⟨j, hj, rfl⟩ := List.mem_iff_getElem.mp hb
  have l : j < es.length := by rw [h.1]; exact hj
  have q := (h.2 j es[j] bs[j] (by simp [l]) (by simp [hj])).1
  unfold lookS at n
  rw [Option.map_eq_none_iff, List.find?_eq_none] at n
  exact n es[j] (List.getElem_mem l) (by rw [q, ek]; exact decide_eq_true rfl)
theorem ents_some {p : Th.Par} {bs : List Nat} {es : List SEnt} (h : Ents p bs es) {k : SKey} {i : Int} (n : lookS es k = some i) : ∃ (j b : Nat), i = (j : Int) ∧ bs[j]? = some b ∧ kOf p b = k := by
  unfold lookS at n
  rw [Option.map_eq_some_iff] at n
  obtain ⟨e, he, rfl⟩ := n
  have m := List.mem_of_find?_eq_some he
  have t := List.find?_some he
  obtain ⟨j, hj, rfl⟩ := List.mem_iff_getElem.mp m
  have l : j < bs.length := by rw [← h.1]; exact hj
  obtain ⟨q1, q2⟩ := h.2 j es[j] bs[j] (by simp [hj]) (by simp [l])
  exact ⟨j, bs[j], q2, by simp [l], by rw [← q1]; exact of_decide_eq_true t⟩
theorem ents_snoc {p : Th.Par} {bs : List Nat} {es : List SEnt} (h : Ents p bs es) (b : Nat) (q : Addr) : Ents p (bs ++ [b]) (es ++ [(kOf p b, q, (bs.length : Int))]) := by
  refine ⟨by rw [List.length_append, List.length_append, h.1]; rfl, fun j e c h1 h2 => ?_⟩
  by_cases hj : j < bs.length
  · rw [List.getElem?_append_left (by rw [h.1]; exact hj)] at h1
    rw [List.getElem?_append_left hj] at h2
    exact h.2 j e c h1 h2
  · have l := Th.at_lt h2
    rw [List.length_append, List.length_singleton] at l
    have ej : j = bs.length := by omega
    subst ej
    rw [List.getElem?_append_right (Nat.le_refl _), Nat.sub_self] at h2
    rw [List.getElem?_append_right (Nat.le_of_eq h.1), h.1, Nat.sub_self] at h1
    cases h1
    cases h2
    exact ⟨rfl, rfl⟩
section
variable (a : Ad)
/-- the stretches of some begins -/
def Sts (H : Hp) (p : Th.Par) (qs : List Addr) (bs : List Nat) : Prop := qs.length = bs.length ∧ ∀ (i : Nat) (q : Addr) (b : Nat), qs[i]? = some q → bs[i]? = some b → SAt a H q p.ch p.g (Th.onn p b) b (Th.baB p b)
def spFollow : Sp := fun vs H Q _ => ∃ (c x dx ls : Addr) (p : Th.Par), vs = [.ref c, .ref x] ∧ H c = some (.ins a.c_Course dx [("_low", .int p.lo), ("_high", .int p.hi), ("_stretches", .ref ls)]) ∧
  H ls = some (.lst []) ∧ p.Ok ∧ SAt a (del H [ls]) x p.ch p.g (Th.onn p 0) 0 (Th.baB p 0) ∧ ∀ bs back qs H', Th.CourseOk p bs back → H' ls = some (.lst (qs.map V.ref)) → Sts a H' p qs bs → Fr1 ls H H' → Q (bkV back) H'
end
section
variable {a : Ad}
theorem Sts.same {H H' : Hp} {p : Th.Par} {qs : List Addr} {bs : List Nat} (h : Sts a H p qs bs) (s : Same H H') : Sts a H' p qs bs := ⟨h.1, fun i q b e1 e2 => (h.2 i q b e1 e2).same s⟩
theorem Sts.snoc {H : Hp} {p : Th.Par} {qs : List Addr} {bs : List Nat} (h : Sts a H p qs bs) {q : Addr} {b : Nat} (n : SAt a H q p.ch p.g (Th.onn p b) b (Th.baB p b)) : Sts a H p (qs ++ [q]) (bs ++ [b]) := by
  refine ⟨by rw [List.length_append, List.length_append, h.1]; rfl, fun j e c h1 h2 => ?_⟩
  by_cases hj : j < bs.length
  · rw [List.getElem?_append_left (by rw [h.1]; exact hj)] at h1
    rw [List.getElem?_append_left hj] at h2
    exact h.2 j e c h1 h2
  · have l := Th.at_lt h2
    rw [List.length_append, List.length_singleton] at l
    have ej : j = bs.length := by omega
    subst ej
    rw [List.getElem?_append_right (Nat.le_refl _), Nat.sub_self] at h2
    rw [List.getElem?_append_right (Nat.le_of_eq h.1), h.1, Nat.sub_self] at h1
    cases h1
    cases h2
    exact n
end
theorem del_upd {H : Hp} {S : List Addr} {y : Addr} {o : HO} (h : y ∈ S) : del (upd H y o) S = del H S := by
  funext b
  unfold del
  split
  · rfl
  · rename_i q
    rw [upd_ne (show b ≠ y from fun e => q (by rw [e]; exact h))]
/-- the loop of _follow -/
def Loop (P : Program) (w : World) (a : Ad) (p : Th.Par) (c dx ls ka : Addr) (H0 : Hp) (bs : List Nat) (b : Nat) (x : Addr) (H : Hp) : Prop :=
  ∃ (qs : List Addr) (es : List SEnt), Th.Chain p (bs ++ [b]) ∧ Th.Dis p bs bs.length ∧ (∀ i b' c', (bs ++ [b])[i]? = some b' → (bs ++ [b])[i + 1]? = some c' → c' ≤ b' + Th.SB) ∧
  H c = some (.ins a.c_Course dx [("_low", .int p.lo), ("_high", .int p.hi), ("_stretches", .ref ls)]) ∧ H ls = some (.lst (qs.map V.ref)) ∧
  H ka = some (SDict P w ka es) ∧ KeysAt (del H [ls, ka]) es ∧ Ents p bs es ∧ Sts a (del H [ls, ka]) p qs bs ∧ SAt a (del H [ls, ka]) x p.ch p.g (Th.onn p b) b (Th.baB p b) ∧ Fr1 ls H0 H
end W6

namespace W6
open PySem PySem.Spec PyProof.Rows L2 Ru StX
section
variable {P : Program} {w : World} {K : PySem.W.Frag} {mg : Str → Option Value} {base : Heap} {a : Ad}
theorem ok_Course_follow (T : Txt K mg a) : FnOk P w K mg base CX0 5 a.f_Course_follow a.d_Course_follow ["self", "stretch"] (spFollow a) := by
  have G_Course_end_of : FnOk P w K mg base CX0 4 a.f_Course_end_of a.d_Course_end_of ["self", "stretch"] (spEnd a) := ok_Course_end_of T
  have G_Stretch_begin_state : FnOk P w K mg base CX0 3 a.f_Stretch_begin_state a.d_Stretch_begin_state ["self"] (spState a) := ok_Stretch_begin_state T
  have G_Stretch_switched : FnOk P w K mg base CX0 4 a.f_Stretch_switched a.d_Stretch_switched ["self", "tick"] (spSwitched a) := ok_Stretch_switched T
  refine T.F_Course_follow.ok sc_Course_follow (fun vs H Q E h => ?_) (fun cdv A outer s H vs Q E hr h => ?_)
  · obtain ⟨c, x, dx, ls, p, rfl, _⟩ := h
    rfl
  · obtain ⟨c, x0, dx, ls, p, rfl, hc, hls, ok, st, k⟩ := h
    refine ⟨_, (pss_cons (ps_set (i := 2) sc_Course_follow.nd rfl (Or.inl rfl) pe_dnewS)
      (pss_one (ps_while PassesOwn.never (pt_val pe_bl)
        (pss_cons (ps_set (i := 3) sc_Course_follow.nd rfl (Or.inl rfl) (pe_callB call_len_seq (by rfl) T.z_len PySem.boot_len (pa_cons (pe_fld (pv 0) rfl) pa_nil)))
      (pss_cons (ps_expr (pe_bm PySem.F.plainAttrs_list PySem.F.slot_list_append PySem.F.type_list_append mt_append (pe_fld (pv 0) rfl) (pa_cons (pv 1) pa_nil)))
      (pss_cons (ps_set (i := 4) sc_Course_follow.nd rfl (Or.inl rfl) (pe_meth0 (pv 1) T.cl_Stretch T.me_Stretch_begin_state G_Stretch_begin_state (hr.mono (by decide)) (b_Stretch_begin_state T) .nil pass0))
      (pss_cons (ps_if (pt_cmpR (op_inSD (hu_of hr)) (pv 4) (pv 2) (rfl)) (pss_one (ps_ret (pe_ix (ix_sd (hu_of hr)) (pv 2) (pv 4) (fun _ _ => rfl)))) pss_nil)
      (pss_cons (ps_asg (pv 3) (pg_sub (pv 2) (pv 4) (set_sd (hu_of hr))))
      (pss_cons (ps_set (i := 5) sc_Course_follow.nd rfl (Or.inl rfl) (pe_meth (pv 0) T.cl_Course T.me_Course_end_of G_Course_end_of (hr.mono (by decide)) (b_Course_end_of T) .nil pass0 (pa_cons (pv 1) pa_nil)))
      (pss_cons (ps_if (pt_cmpR op_isN (pv 5) pe_non (nomark _)) (pss_one (ps_ret pe_non)) pss_nil)
      (pss_one (ps_set (i := 1) sc_Course_follow.nd rfl (Or.inl rfl) (pe_meth (pv 1) T.cl_Stretch T.me_Stretch_switched G_Stretch_switched (hr.mono (by decide)) (b_Stretch_switched T) .nil pass0 (pa_cons (pv 5) pa_nil)))))))))))))), ?_⟩
    intro ka nka
    have ncs : c ≠ ls := ne_of hc hls (fun z => nomatch z)
    have nck : c ≠ ka := ne_of_none hc nka
    have nsk : ls ≠ ka := ne_of_none hls nka
    refine ⟨fun m σ H' => ∃ (bs : List Nat) (b : Nat) (x : Addr) (u v w' : Option V), m = 9602 - bs.length ∧ σ = [some (.ref c), some (.ref x), some (.ref ka), u, v, w'] ∧ Loop P w a p c dx ls ka H bs b x H', ?_, ?_⟩
    · have dd : Same (del H [ls]) (del (upd H ka (SDict P w ka [])) [ls, ka]) := fun y o e => by
        obtain ⟨q, e⟩ := del_some e
        have ny : y ≠ ka := ne_of_none e nka
        rw [del_in (by simp at q ⊢; exact ⟨q, ny⟩), upd_ne ny]
        exact e
      refine ⟨_, [], 0, x0, none, none, none, rfl, rfl, [], [], Th.Chain.single p, fun i j a c hij hj => absurd hj (Nat.not_lt_zero _), fun i b' c' h1 h2 => by simp at h2, ?_, ?_, upd_same, fun e he => (nomatch he), ⟨rfl, fun j e b h1 h2 => by simp at h1⟩, ⟨rfl, fun j e b h1 h2 => by simp at h1⟩, st.same dd, fun y o n1 e => ?_⟩
      · rw [upd_ne nck]; exact hc
      · rw [upd_ne nsk]; exact hls
      · rw [upd_ne (ne_of_none e nka)]; exact e
    · rintro m σ H' ⟨bs, b, x, u, v, w', rfl, rfl, qs, es, ch, di, sb, hc', hls', hka', ks, en, sts, stx, fr⟩
      refine ⟨_, rfl, ?_⟩
      refine ⟨fun σ' H' => ∃ m' , m' < 9602 - bs.length ∧ ∃ (bs : List Nat) (b : Nat) (x : Addr) (u v w' : Option V), m' = 9602 - bs.length ∧ σ' = [some (.ref c), some (.ref x), some (.ref ka), u, v, w'] ∧ Loop P w a p c dx ls ka H bs b x H', fun _ _ h => h, ?_⟩
      refine ⟨_, rfl, c, _, dx, _, _, rfl, hc', T.cl_Course, T.na_Course__stretches, rfl, ls, _, rfl, .inl (SqL.of hls'), ?_⟩
      obtain ⟨lq, atq⟩ := id sts
      have l9 : bs.length + 1 ≤ 9602 := by
        have := Th.few ok ch (m := bs.length) (by rw [List.length_append]; omega) di.app
        omega
      refine ⟨_, rfl, c, _, dx, _, _, rfl, hc', T.cl_Course, T.na_Course__stretches, rfl, .inl ⟨rfl, _, SqL.of hls'⟩, _, rfl, ls, _, _, rfl, rfl, hls', by rw [List.length_map, lq]; show bs.length < 16777216; omega, ?_⟩
      generalize hH2 : upd H' ls _ = H2
      have d2 : del H2 [ls, ka] = del H' [ls, ka] := by
        rw [← hH2, del_upd (by simp)]
      have hc2 : H2 c = some (.ins a.c_Course dx [("_low", .int p.lo), ("_high", .int p.hi), ("_stretches", .ref ls)]) := by rw [← hH2, upd_ne ncs]; exact hc'
      have hls2 : H2 ls = some (.lst ((qs ++ [x]).map V.ref)) := by rw [← hH2, upd_same, List.map_append]; rfl
      have hka2 : H2 ka = some (SDict P w ka es) := by rw [← hH2, upd_ne nsk.symm]; exact hka'
      rw [← d2] at ks sts stx
      have fr2 : Fr1 ls H H2 := fun y o n1 e => by rw [← hH2, upd_ne n1]; exact fr y o n1 e
      have stx2 : SAt a H2 x p.ch p.g (Th.onn p b) b (Th.baB p b) := stx.same del_same
      have sts2 := sts.snoc stx
      obtain ⟨ds, td, d, hx2, _⟩ := id stx2
      refine ⟨_, rfl, x, ds, _, rfl, hx2, rfl, x, b, p.ch, p.g, _, _, rfl, stx2, fun z H3 sm nz hz => ?_⟩
      have eb : Th.Dg p.ch (Th.gon p.g (Th.onn p b)) (Th.baB p b) b = Th.deg p b := by
        have := Th.Dg_B p b b
        unfold Th.ggB Th.DD at this
        omega
      rw [eb] at hz
      have hz : H3 z = some (.tup (skV (kOf p b))) := hz
      have nz2 : ∀ y ∈ [ls, ka], z ≠ y := fun y hy e => by
        rw [e] at nz
        simp only [List.mem_cons, List.not_mem_nil, or_false] at hy
        rcases hy with rfl | rfl
        · rw [hls2] at nz; cases nz
        · rw [hka2] at nz; cases nz
      have ks3 : KeysAt (del H3 [ls, ka]) es := fun e he => (Same.del sm) _ _ (ks e he)
      have ks4 : KeysAt H3 es := fun e he => del_same _ _ (ks3 e he)
      refine ⟨_, rfl, _, rfl, ka, z, es, kOf p b, rfl, rfl, hz, sm _ _ hka2, ks4, ?_⟩
      refine ⟨_, rfl, ?_⟩
      have hc3 := sm _ _ hc2
      have hls3 := sm _ _ hls2
      have hka3 := sm _ _ hka2
      have hx3 := sm _ _ hx2
      have sts3 := sts2.same (Same.del sm)
      have stx3 := stx.same (Same.del sm)
      have fr3 : Fr1 ls H H3 := fun y o n1 e => sm _ _ (fr2 y o n1 e)
      have lab : (bs ++ [b]).length = bs.length + 1 := by rw [List.length_append]; rfl
      cases hl : lookS es (kOf p b) with
      | some i =>
        obtain ⟨j, bj, rfl, hj, ej⟩ := ents_some en hl
        refine ifT rfl ?_
        refine ⟨_, rfl, _, rfl, ka, z, es, kOf p b, rfl, rfl, hz, hka3, ks4, _, hl, ?_⟩
        refine k (bs ++ [b]) (some j) (qs ++ [x]) H3 ⟨ok, ch, by omega, Th.far_of sb ch.1 (by omega), fun e => (nomatch e), fun j' e => ?_⟩ hls3 (sts3.same del_same) fr3
        cases e
        have lj := Th.at_lt hj
        exact ⟨by rw [lab]; exact di.app, by omega, bj, b, by rw [List.getElem?_append_left lj]; exact hj, Th.last_app, kOf_stt ej⟩
      | none =>
        refine ifF rfl ?_
        refine ⟨_, rfl, _, rfl, _, rfl, ka, z, es, kOf p b, rfl, rfl, hz, hka3, ks4, _, rfl, hl, by rw [en.1]; show bs.length < 16777216; omega, ?_⟩
        have e0 : (qs.map V.ref).length = bs.length := by rw [List.length_map, lq]
        generalize hH4 : upd H3 ka _ = H4
        have hka4 : H4 ka = some (SDict P w ka (es ++ [(kOf p b, z, ((qs.map V.ref).length : Int))])) := by rw [← hH4, upd_same]; rfl
        rw [e0] at hka4
        have d4 : del H4 [ls, ka] = del H3 [ls, ka] := by rw [← hH4, del_upd (by simp)]
        have hc4 : H4 c = some (.ins a.c_Course dx [("_low", .int p.lo), ("_high", .int p.hi), ("_stretches", .ref ls)]) := by rw [← hH4, upd_ne nck]; exact hc3
        have hls4 : H4 ls = some (.lst ((qs ++ [x]).map V.ref)) := by rw [← hH4, upd_ne nsk]; exact hls3
        have hz4 : del H4 [ls, ka] z = some (.tup (skV (kOf p b))) := by
          rw [d4, del_in]
          · exact hz
          · exact fun m => nz2 z m rfl
        have fr4 : Fr1 ls H H4 := fun y o n1 e => by
          by_cases q : y = ka
          · rw [q] at e; rw [nka] at e; cases e
          · rw [← hH4, upd_ne q]; exact fr3 y o n1 e
        rw [← d4] at ks3 sts3 stx3
        have ks5 : KeysAt (del H4 [ls, ka]) (es ++ [(kOf p b, z, (bs.length : Int))]) := fun e he => by
          rcases List.mem_append.mp he with he | he
          · exact ks3 e he
          · obtain rfl := List.mem_singleton.mp he
            exact hz4
        have di2 : Th.Dis p (bs ++ [b]) (bs ++ [b]).length := by
          rw [lab]
          refine di.snoc fun u hu e => ents_none en hl u hu (stt_kOf e)
        have bb := Th.begins sb ch.1 bs.length b (by rw [List.getElem?_append_right (Nat.le_refl _), Nat.sub_self]; rfl)
        have hb : b ≤ 1000000000000000000 := by
          have : bs.length * Th.SB ≤ 9602 * Th.SB := Nat.mul_le_mul_right _ (by omega)
          have e : 9602 * Th.SB = 480100000000000000 := rfl
          omega
        refine ⟨_, rfl, c, dx, _, rfl, hc4, rfl, _, rfl, c, x, dx, _, p, b, rfl, hc4, rfl, rfl, rfl, stx3.same del_same, hb, fun r H5 sm5 fb => ?_⟩
        have hc5 := sm5 _ _ hc4
        have hls5 := sm5 _ _ hls4
        have hka5 := sm5 _ _ hka4
        have fr5 : Fr1 ls H H5 := fun y o n1 e => sm5 _ _ (fr4 y o n1 e)
        have sts5 := sts3.same (Same.del sm5)
        have stx5 := stx3.same (Same.del sm5)
        have ks6 : KeysAt (del H5 [ls, ka]) (es ++ [(kOf p b, z, (bs.length : Int))]) := fun e he => (Same.del sm5) _ _ (ks5 e he)
        cases r with
        | none =>
          refine ⟨_, rfl, rfl, _, rfl, ?_⟩
          refine ifT rfl ?_
          exact k (bs ++ [b]) none (qs ++ [x]) H5 ⟨ok, ch, by omega, Th.far_of sb ch.1 (by omega), fun _ => ⟨di2, b, Th.last_app, Th.fb_nev ok fb⟩, fun j e => nomatch e⟩ hls5 (sts5.same del_same) fr5
        | some e =>
          have nx := Th.fb_nx ok fb
          have lt := Th.late ok (Th.chain_beg ok ch Th.last_app) fb
          have on' : Th.onn p e = !Th.onn p b := by
            have := nx.2.2
            cases q1 : Th.onn p e <;> cases q2 : Th.onn p b <;> rw [q1, q2] at this <;> first | rfl | exact absurd rfl this
          have he := Th.baB_next nx
          obtain ⟨ds5, td5, d5, hx5S, _⟩ := id stx5
          have hx5 := del_same _ _ hx5S
          have occ : ∀ y ∈ [ls, ka], ∃ o, H5 y = some o := fun y hy => by
            simp only [List.mem_cons, List.not_mem_nil, or_false] at hy
            rcases hy with rfl | rfl
            · exact ⟨_, hls5⟩
            · exact ⟨_, hka5⟩
          refine ⟨_, rfl, rfl, _, rfl, ?_⟩
          refine ifF rfl ?_
          refine ⟨_, rfl, x, ds5, _, rfl, hx5, rfl, _, rfl, [ls, ka], x, e, b, p.ch, p.g, _, _, rfl, occ, stx5, fun z2 H6 s6 nz2 st6 => ?_⟩
          refine ⟨9602 - (bs.length + 1), by omega, bs ++ [b], e, z2, _, _, _, by rw [lab], rfl, qs ++ [x], es ++ [(kOf p b, z, (bs.length : Int))], ch.snoc Th.last_app nx, di2, fun i b' c' h1 h2 => ?_, s6 _ _ hc5, s6 _ _ hls5, s6 _ _ hka5, fun e he => (Same.del s6) _ _ (ks6 e he), ents_snoc en b z, sts5.same (Same.del s6), ?_, fun y o n1 e => s6 _ _ (fr5 y o n1 e)⟩
          · have l2 := Th.at_lt h2
            rw [List.length_append, List.length_singleton] at l2
            rw [List.getElem?_append_left (by omega)] at h1
            by_cases hi : i + 1 < (bs ++ [b]).length
            · rw [List.getElem?_append_left hi] at h2
              exact sb i b' c' h1 h2
            · have ei : i = bs.length := by omega
              subst ei
              rw [List.getElem?_append_right (Nat.le_refl _), Nat.sub_self] at h1
              rw [List.getElem?_append_right (by omega), lab, Nat.sub_self] at h2
              cases h1
              cases h2
              exact lt
          · rw [on']
            have eB : Th.baB p e = Th.Dg p.ch (Th.gon p.g (Th.onn p b)) (Th.baB p b) e - Th.sumTo p.ch (Th.gon p.g (!Th.onn p b)) e := by
              have h1 : Th.Dg p.ch (Th.gon p.g (Th.onn p b)) (Th.baB p b) e = Th.deg p e := he
              rw [h1]
              unfold Th.baB Th.ggB
              rw [on']
            rw [eB]
            exact st6
end
end W6

/-! the repetition, the share of heating: plain Lean -/
namespace Th
/-- a level stretch without an end repeats each round -/
theorem level_per {p : Par} (ok : p.Ok) {b : Nat} (n : Nev p b) (z : rsum p.ch (gon p.g (onn p b)) = 0) : Per p b p.ch.length := fun t ht => by
  have on1 : onn p (t + p.ch.length) = onn p t := (n _ (by omega)).trans (n t ht).symm
  have ot : onn p t = onn p b := n t ht
  have r : Run p t (t + p.ch.length) := fun u h1 h2 => (n u (by omega)).trans ot.symm
  have e1 := run_deg (by omega) r
  have e2 := DD_round ok t t 1
  rw [Nat.one_mul, ot, z] at e2
  have e3 : DD p t (t + p.ch.length) = deg p (t + p.ch.length) := by unfold DD; omega
  have e4 : DD p t t = deg p t := by unfold DD; omega
  have e5 : deg p (t + p.ch.length) = deg p t := by rw [← e3, e2, e4]; simp
  exact Prod.ext e5 on1
theorem mod_cancel {x y c n : Nat} (h : y ≤ x) (k : (x + c) % n = (y + c) % n) : x % n = y % n := by
  have z := Nat.sub_mod_eq_zero_of_mod_eq k
  rw [show x + c - (y + c) = x - y by omega] at z
  obtain ⟨q, hq⟩ := Nat.dvd_of_mod_eq_zero z
  rw [show x = y + n * q by omega, Nat.add_mul_mod_self_left]
/-- what leads to two equal beginnings is equal -/
theorem back_eq {p : Par} {e1 f e2 l : Nat} (h1 : Nx p e1 f) (h2 : Nx p e2 l) (s : stt p f = stt p l) (lt : f < l) : ∀ j, j ≤ f - e1 → j ≤ l - e2 → traj p (l - j) = traj p (f - j)
  | 0, _, _ => by
    unfold stt at s
    injection s with _ s
    injection s with s1 s2
    exact Prod.ext s1.symm s2.symm
  | j + 1, a, b => by
    have ih := back_eq h1 h2 s lt j (by omega) (by omega)
    unfold stt at s
    injection s with s0 s
    injection s with s1 s2
    have g1 := h1.1
    have g2 := h2.1
    have o1 : onn p (f - (j + 1)) = onn p e1 := h1.2.1 _ (by omega) (by omega)
    have o2 : onn p (l - (j + 1)) = onn p e2 := h2.2.1 _ (by omega) (by omega)
    have q1 := h1.2.2
    have q2 := h2.2.2
    have oe : onn p (l - (j + 1)) = onn p (f - (j + 1)) := by
      rw [o1, o2]
      rw [s2] at q1
      cases x1 : onn p e1 <;> cases x2 : onn p e2 <;> cases x3 : onn p l <;> simp_all
    have d1 := deg_succ p (f - (j + 1))
    have d2 := deg_succ p (l - (j + 1))
    rw [show f - (j + 1) + 1 = f - j by omega] at d1
    rw [show l - (j + 1) + 1 = l - j by omega] at d2
    have id : deg p (l - j) = deg p (f - j) := congrArg Prod.fst ih
    have ce : chAt p.ch (l - (j + 1)) = chAt p.ch (f - (j + 1)) := by
      unfold chAt
      have : (l - (j + 1)) % p.ch.length = (f - (j + 1)) % p.ch.length := by
        have m : (l - (j + 1)) + (j + 1) = l := by omega
        have m2 : (f - (j + 1)) + (j + 1) = f := by omega
        have k : ((l - (j + 1)) + (j + 1)) % p.ch.length = ((f - (j + 1)) + (j + 1)) % p.ch.length := by rw [m, m2]; exact s0.symm
        exact mod_cancel (by omega) k
      rw [this]
    rw [oe, ce] at d2
    exact Prod.ext (show deg p (l - (j + 1)) = deg p (f - (j + 1)) by omega) oe
/-- what recurrence gives -/
def Rec (p : Par) (bs : List Nat) (back : Option Nat) (r : Option (Nat × Nat)) : Prop :=
  match back with
  | none => ∃ b, bs[bs.length - 1]? = some b ∧ r = if rsum p.ch (gon p.g (onn p b)) = 0 then some (b, p.ch.length) else none
  | some k => ∃ f l, bs[k]? = some f ∧ bs[bs.length - 1]? = some l ∧ ((k = 0 ∧ r = some (f, l - f)) ∨ ∃ k' e1 e2, k = k' + 1 ∧ bs[k']? = some e1 ∧ bs[bs.length - 2]? = some e2 ∧ r = some (f - min (f - e1) (l - e2), l - f))
/-- what share_of_heating gives -/
def Share (p : Par) (bs : List Nat) (back : Option Nat) (top bot : Nat) : Prop :=
  match back with
  | none => ∃ b, bs[bs.length - 1]? = some b ∧ bot = 1 ∧ top = if onn p b then 1 else 0
  | some k => ∃ f l h, bs[k]? = some f ∧ bs[bs.length - 1]? = some l ∧ Hc p l - Hc p f = (h : Nat) ∧ h ≤ l - f ∧ top = h / Nat.gcd h (l - f) ∧ bot = (l - f) / Nat.gcd h (l - f)
theorem Rec.per {p : Par} {bs : List Nat} {back : Option Nat} {f T : Nat} (c : CourseOk p bs back) (h : Rec p bs back (some (f, T))) : Per p f T ∧ 1 ≤ T ∧ f + T ≤ 480100000000000100 := by
  have n1 := c.ok.n1
  have n24 := c.ok.n24
  cases back with
  | none =>
    obtain ⟨b, hb, e⟩ := h
    split at e
    · rename_i z
      cases e
      obtain ⟨_, b', hb', nv⟩ := c.fin rfl
      rw [hb] at hb'; cases hb'
      have := c.far _ _ hb
      exact ⟨level_per c.ok nv z, n1, by omega⟩
    · cases e
  | some k =>
    obtain ⟨f', l, hf, hl, e⟩ := h
    obtain ⟨lt, pe⟩ := c.per rfl hf hl
    have fl := c.far _ _ hl
    rcases e with ⟨rfl, e⟩ | ⟨k', e1, e2, rfl, h1, h2, e⟩
    · cases e
      exact ⟨pe, by omega, by omega⟩
    · cases e
      obtain ⟨_, kl, f'', l'', hf'', hl'', st⟩ := c.rep (k' + 1) rfl
      rw [hf] at hf''; cases hf''
      rw [hl] at hl''; cases hl''
      have x1 := c.chain.2 k' e1 f' h1 hf
      have x2 := c.chain.2 (bs.length - 2) e2 l h2 (by rw [show bs.length - 2 + 1 = bs.length - 1 by omega]; exact hl)
      have be := back_eq x1 x2 st lt
      have g1 := x1.1
      have g2 := x2.1
      refine ⟨fun t ht => ?_, by omega, by omega⟩
      by_cases q : f' ≤ t
      · exact pe t q
      · have := be (f' - t) (by omega) (by omega)
        rw [show l - (f' - t) = t + (l - f') by omega, show f' - (f' - t) = t by omega] at this
        exact this
theorem Rec.none' {p : Par} {bs : List Nat} {back : Option Nat} (h : Rec p bs back none) : back = none := by
  cases back with
  | none => rfl
  | some k =>
    obtain ⟨f', l, hf, hl, e⟩ := h
    rcases e with ⟨_, e⟩ | ⟨_, _, _, _, _, _, e⟩ <;> cases e
theorem nev_heat {p : Par} {b : Nat} (n : Nev p b) (d : Nat) : Hc p (b + d) = Hc p b + (if onn p b then (d : Int) else 0) := by
  have := run_heat (e := b + d) (by omega) (fun t h1 _ => n t h1)
  rw [this, show b + d - b = d by omega]
/-- the heating of a repetition is the share -/
theorem Rec.share {p : Par} {bs : List Nat} {back : Option Nat} {f T top bot : Nat} (c : CourseOk p bs back) (h : Rec p bs back (some (f, T))) (s : Share p bs back top bot) : (Hc p (f + T) - Hc p f) * (bot : Int) = (top : Int) * (T : Int) := by
  obtain ⟨pe, t1, _⟩ := h.per c
  cases back with
  | none =>
    obtain ⟨b, hb, e⟩ := h
    obtain ⟨b2, hb2, eb, et⟩ := s
    rw [hb] at hb2; cases hb2
    split at e
    · cases e
      obtain ⟨_, b', hb', nv⟩ := c.fin rfl
      rw [hb] at hb'; cases hb'
      rw [nev_heat nv, eb, et]
      cases onn p f <;> simp
      omega
    · cases e
  | some k =>
    obtain ⟨f', l, hf, hl, e⟩ := h
    obtain ⟨f2, l2, h2, hf2, hl2, hh, hle, et, eb⟩ := s
    rw [hf] at hf2; cases hf2
    rw [hl] at hl2; cases hl2
    obtain ⟨lt, pe'⟩ := c.per rfl hf hl
    have eT : T = l - f' ∧ f ≤ f' := by
      rcases e with ⟨rfl, e⟩ | ⟨k', e1, e2, rfl, h1, h2, e⟩ <;> cases e
      · exact ⟨rfl, Nat.le_refl _⟩
      · exact ⟨rfl, by omega⟩
    obtain ⟨rfl, lf⟩ := eT
    have q := pe.heat (f' - f)
    rw [Nat.add_sub_cancel' lf, Nat.add_sub_cancel' (Nat.le_of_lt lt), hh] at q
    rw [← q, et, eb]
    have g1 := Nat.gcd_dvd_left h2 (l - f')
    have g2 := Nat.gcd_dvd_right h2 (l - f')
    have z : h2 * ((l - f') / Nat.gcd h2 (l - f')) = h2 / Nat.gcd h2 (l - f') * (l - f') := by
      rw [← Nat.mul_div_assoc _ g2, Nat.mul_comm (h2 / _), ← Nat.mul_div_assoc _ g1, Nat.mul_comm]
    have := congrArg (fun n : Nat => (n : Int)) z
    simpa using this
theorem Share.ok {p : Par} {bs : List Nat} {back : Option Nat} {top bot : Nat} (c : CourseOk p bs back) (s : Share p bs back top bot) : 1 ≤ bot ∧ top ≤ bot ∧ Nat.gcd top bot = 1 := by
  cases back with
  | none =>
    obtain ⟨b, hb, rfl, rfl⟩ := s
    cases onn p b <;> simp
  | some k =>
    obtain ⟨f, l, h, hf, hl, hh, hle, rfl, rfl⟩ := s
    obtain ⟨lt, _⟩ := c.per rfl hf hl
    have g0 : 0 < Nat.gcd h (l - f) := Nat.gcd_pos_of_pos_right _ (by omega)
    have g2 := Nat.gcd_dvd_right h (l - f)
    refine ⟨Nat.div_pos (Nat.le_of_dvd (by omega) g2) g0, Nat.div_le_div_right hle, ?_⟩
    rw [Nat.gcd_div (Nat.gcd_dvd_left h (l - f)) g2, Nat.div_self g0]
/-- all the heating there is -/
theorem Share.ever {p : Par} {bs : List Nat} {top bot : Nat} (c : CourseOk p bs none) (s : Share p bs none top bot) : bot = 1 ∧ top = if onn p 1000000000000000000 then 1 else 0 := by
  obtain ⟨b, hb, e1, e2⟩ := s
  obtain ⟨_, b', hb', nv⟩ := c.fin rfl
  rw [hb] at hb'; cases hb'
  have := c.far _ _ hb
  rw [nv 1000000000000000000 (by omega)]
  exact ⟨e1, e2⟩
end Th

/-! temperatures and begins by the place of a tick: plain Lean -/
namespace Th
theorem Pl.degs {p : Par} {bs : List Nat} {back : Option Nat} {t r i t' b : Nat} (h : CourseOk p bs back) (q : Pl p bs back t r i t') (hb : bs[i]? = some b) : Dg p.ch (gon p.g (onn p b)) (baB p b) t' = deg p t := by
  obtain ⟨le, run⟩ := q.stay h hb
  have e1 := run_deg le (fun u h1 h2 => run u h1 (by omega))
  have e2 : deg p t = deg p t' := congrArg Prod.fst (q.again h)
  have e3 := Dg_B p b t'
  unfold ggB DD at e3
  omega
/-- how many stretches begin in a tick or before it -/
def Cn (p : Par) : Nat → Nat
  | 0 => 1
  | t + 1 => Cn p t + (if onn p (t + 1) = onn p t then 0 else 1)
theorem Cn_pos (p : Par) : ∀ t, 1 ≤ Cn p t
  | 0 => Nat.le_refl _
  | t + 1 => by have := Cn_pos p t; show 1 ≤ Cn p t + _; omega
theorem Cn_le (p : Par) : ∀ t, Cn p t ≤ t + 1
  | 0 => Nat.le_refl _
  | t + 1 => by
    have := Cn_le p t
    show Cn p t + (if onn p (t + 1) = onn p t then 0 else 1) ≤ t + 1 + 1
    split <;> omega
theorem Cn_run {p : Par} {b : Nat} : ∀ {d : Nat}, Run p b (b + d + 1) → Cn p (b + d) = Cn p b
  | 0, _ => rfl
  | d + 1, r => by
    have ih := Cn_run (d := d) (fun u h1 h2 => r u h1 (by omega))
    show Cn p (b + d) + (if onn p (b + d + 1) = onn p (b + d) then 0 else 1) = Cn p b
    rw [if_pos ((r (b + d + 1) (by omega) (by omega)).trans (r (b + d) (by omega) (by omega)).symm), ih]; rfl
theorem Cn_nx {p : Par} {b e : Nat} (n : Nx p b e) : Cn p e = Cn p b + 1 := by
  obtain ⟨lt, r, ne⟩ := n
  obtain ⟨d, rfl⟩ : ∃ d, e = b + d + 1 := ⟨e - b - 1, by omega⟩
  show Cn p (b + d) + (if onn p (b + d + 1) = onn p (b + d) then 0 else 1) = Cn p b + 1
  rw [Cn_run r, if_neg (fun h => ne (h.trans (r (b + d) (by omega) (by omega))))]
theorem Chain.cn {p : Par} {bs : List Nat} (h : Chain p bs) : ∀ {i b : Nat}, bs[i]? = some b → Cn p b = i + 1
  | 0, b, e => by rw [h.1] at e; cases e; rfl
  | i + 1, b, e => by
    obtain ⟨a, ha⟩ := at_some (bs := bs) (i := i) (by have := at_lt e; omega)
    rw [Cn_nx (h.2 i a b ha e), h.cn ha]
theorem Per.cns {p : Par} {f T : Nat} (h : Per p f T) : ∀ j, Cn p (f + j + T) + Cn p f = Cn p (f + j) + Cn p (f + T)
  | 0 => by rw [Nat.add_zero, Nat.add_comm]
  | j + 1 => by
    have ih := h.cns j
    have e0 : onn p (f + j + T) = onn p (f + j) := congrArg Prod.snd (h (f + j) (by omega))
    have e1 : onn p (f + j + 1 + T) = onn p (f + j + 1) := congrArg Prod.snd (h (f + j + 1) (by omega))
    have c1 : Cn p (f + (j + 1) + T) = Cn p (f + j + T) + (if onn p (f + j + T + 1) = onn p (f + j + T) then 0 else 1) := by
      rw [show f + (j + 1) + T = (f + j + T) + 1 by omega]; rfl
    have c2 : Cn p (f + (j + 1)) = Cn p (f + j) + (if onn p (f + j + 1) = onn p (f + j) then 0 else 1) := rfl
    rw [c1, c2, e0, show f + j + T + 1 = f + j + 1 + T by omega, e1]
    omega
theorem Per.cnm {p : Par} {f T : Nat} (h : Per p f T) {t : Nat} (ht : f ≤ t) : ∀ m : Nat, Cn p (t + m * T) + m * Cn p f = Cn p t + m * Cn p (f + T)
  | 0 => by simp
  | m + 1 => by
    have ih := h.cnm ht m
    have e := h.cns (t + m * T - f)
    rw [show f + (t + m * T - f) = t + m * T by omega] at e
    rw [Nat.succ_mul, ← Nat.add_assoc, Nat.succ_mul, Nat.succ_mul]
    omega
theorem Pl.cn {p : Par} {bs : List Nat} {back : Option Nat} {t r i t' : Nat} (h : CourseOk p bs back) (q : Pl p bs back t r i t') : Cn p t' = i + 1 ∧ (r = 0 → t = t') ∧ ∀ k, back = some k → 0 < r → k + 1 < bs.length ∧ Cn p t = i + 1 + r * (bs.length - 1 - k) := by
  obtain ⟨b, hb, le, nx⟩ := q.at'
  obtain ⟨_, run⟩ := q.stay h hb
  have c1 : Cn p t' = i + 1 := by
    obtain ⟨d, rfl⟩ : ∃ d, t' = b + d := ⟨t' - b, by omega⟩
    rw [Cn_run run, h.chain.cn hb]
  refine ⟨c1, (q.heat h hb).2.1, fun k eb hr => ?_⟩
  obtain ⟨_, kl, f, l, hf, hl, st⟩ := h.rep k eb
  obtain ⟨e1, e2, e3⟩ := q.som k f l eb hf hl
  obtain ⟨lt, pe⟩ := h.per eb hf hl
  have z := pe.cnm (e3 hr) r
  rw [Nat.add_sub_cancel' (Nat.le_of_lt lt), ← e1, h.chain.cn hf, h.chain.cn hl, c1] at z
  refine ⟨kl, ?_⟩
  have e4 : r * (bs.length - 1 + 1) = r * (k + 1) + r * (bs.length - 1 - k) := by rw [← Nat.mul_add]; congr 1; omega
  omega
end Th

/-! the repetition told is the first and the shortest; without repetition the temperature goes on: plain Lean -/
namespace Th
theorem nx_fb {p : Par} (ok : p.lo ≤ p.hi) {b e : Nat} (n : Nx p b e) : FB p.ch (ggB p b) (baB p b) b (sgB p b) (bdB p b) (some e) := by
  obtain ⟨lt, r, ne⟩ := n
  have key : ∀ t, b < t → t ≤ e → Dg p.ch (ggB p b) (baB p b) t = deg p t ∧ onn p t = hst (deg p t) p.lo p.hi (onn p b) := fun t h1 h2 => by
    obtain ⟨u, rfl⟩ : ∃ u, t = u + 1 := ⟨t - 1, by omega⟩
    have e1 := run_deg (e := u + 1) (by omega) (fun v a c => r v a (by omega))
    refine ⟨by rw [Dg_B]; unfold DD; omega, ?_⟩
    rw [onn_succ, r u (by omega) (by omega)]
  refine ⟨lt, ?_, fun t h1 h2 hb => ?_⟩
  · obtain ⟨k1, k2⟩ := key e lt (Nat.le_refl _)
    rw [k1]
    refine Decidable.byContradiction fun nb => ne ?_
    rw [k2]
    exact (hst_stay ok).mpr nb
  · obtain ⟨k1, k2⟩ := key t h1 (Nat.le_of_lt h2)
    rw [k1] at hb
    have q := r t (Nat.le_of_lt h1) h2
    rw [k2] at q
    exact (hst_stay ok).mp q hb
/-- thresholds and start are near each other -/
structure Near (p : Par) : Prop where
  band : p.hi - p.lo ≤ 100000000000
  s1 : p.lo - 200000000000 ≤ p.st
  s2 : p.st ≤ p.lo + 300000000000
theorem late2 {p : Par} (ok : p.Ok) (nr : Near p) {b e : Nat} (hb : Beg p b) (h : FB p.ch (ggB p b) (baB p b) b (sgB p b) (bdB p b) (some e)) : e ≤ b + 7300000000000 := by
  have n1 := ok.n1
  have n24 := ok.n24
  have nb := nr.band
  have ns1 := nr.s1
  have ns2 := nr.s2
  have lh := ok.lohi
  by_cases hg : sgB p b * (bdB p b - Dg p.ch (ggB p b) (baB p b) (b + 1)) < 0
  · obtain ⟨h1, h2, h3⟩ := h
    have : e ≤ b + 1 := Nat.le_of_not_lt fun hlt => h3 (b + 1) (by omega) hlt hg
    omega
  · by_cases hs : 0 < sgB p b * rsum p.ch (ggB p b)
    · have l := fb_late n1 hs h (by omega)
      have gp : sgB p b * (bdB p b - Dg p.ch (ggB p b) (baB p b) (b + 1)) ≤ 300000000500 := by
        rw [Dg_B]
        have c := chAt_bd ok b
        have bd : (onn p b = true → p.lo - 200000000000 ≤ deg p b) ∧ (onn p b = false → deg p b ≤ p.lo + 300000000300) := by
          rcases hb with rfl | r
          · have e : deg p 0 = p.st := rfl
            rw [e]
            constructor <;> intro _ <;> omega
          · constructor
            · intro o; have := r.1 o; omega
            · intro o; have := r.2 o; omega
        have := ok.g1
        have := ok.g200
        have es : sumTo p.ch (gon p.g (onn p b)) (b + 1) = sumTo p.ch (gon p.g (onn p b)) b + chAt p.ch b + gon p.g (onn p b) := rfl
        unfold DD
        rw [es]
        cases o : onn p b
        · have q := bd.2 o
          unfold sgB bdB sgnOf bndOf gon
          rw [o]
          simp
          omega
        · have q := bd.1 o
          unfold sgB bdB sgnOf bndOf gon
          rw [o]
          simp
          omega
      unfold cand at l
      rw [Nat.add_zero] at l
      generalize sgB p b * (bdB p b - Dg p.ch (ggB p b) (baB p b) (b + 1)) = gap at *
      generalize sgB p b * rsum p.ch (ggB p b) = sp at *
      have q1 : gap / sp ≤ gap := Int.ediv_le_self _ (by omega)
      have q2 : (gap / sp + 1).toNat ≤ 300000000501 := by omega
      have q3 := Nat.mul_le_mul q2 n24
      omega
    · obtain ⟨h1, h2, h3⟩ := h
      have : e ≤ b + p.ch.length := Nat.le_of_not_lt fun hlt => by
        refine fb_none (b := b) (bound := bdB p b) (base := baB p b) n1 (show sgB p b * rsum p.ch (ggB p b) ≤ 0 by omega) (fun i hi => h3 (b + 1 + i) (by omega) (by omega)) e h1 h2
      omega
theorem near_begins {p : Par} {bs : List Nat} (ok : p.Ok) (nr : Near p) (h : Chain p bs) : ∀ (i b : Nat), bs[i]? = some b → b ≤ i * 7300000000000
  | 0, b, e => by rw [h.1] at e; cases e; exact Nat.zero_le _
  | i + 1, b, e => by
    obtain ⟨a, ha⟩ := at_some (bs := bs) (i := i) (by have := at_lt e; omega)
    have ih := near_begins ok nr h i a ha
    have := late2 ok nr (chain_beg ok h ha) (nx_fb ok.lohi (h.2 i a b ha e))
    rw [Nat.succ_mul]
    omega
theorem CourseOk.near {p : Par} {bs : List Nat} {back : Option Nat} (c : CourseOk p bs back) (nr : Near p) {i b : Nat} (e : bs[i]? = some b) : b ≤ 70094600000000000 := by
  have q := near_begins c.ok nr c.chain i b e
  have l := at_lt e
  have l2 := c.len
  have : i * 7300000000000 ≤ 9602 * 7300000000000 := Nat.mul_le_mul_right _ (by omega)
  omega
/-- each tick has its stretch -/
theorem place_ex {bs : List Nat} (h0 : bs[0]? = some 0) (t : Nat) : ∃ (i b : Nat), bs[i]? = some b ∧ b ≤ t ∧ ∀ c, bs[i + 1]? = some c → t < c := by
  have key : ∀ n : Nat, (∃ (i b : Nat), bs[i]? = some b ∧ b ≤ t ∧ ∀ c, bs[i + 1]? = some c → t < c) ∨ ∃ b, bs[n]? = some b ∧ b ≤ t := fun n => by
    induction n with
    | zero => exact .inr ⟨0, h0, Nat.zero_le _⟩
    | succ n ih =>
      rcases ih with ih | ⟨b, hb, le⟩
      · exact .inl ih
      · cases e : bs[n + 1]? with
        | none => exact .inl ⟨n, b, hb, le, fun c hc => by rw [e] at hc; cases hc⟩
        | some c =>
          by_cases lt : t < c
          · exact .inl ⟨n, b, hb, le, fun c' hc => by rw [e] at hc; cases hc; exact lt⟩
          · exact .inr ⟨c, rfl, by omega⟩
  rcases key bs.length with k | ⟨b, hb, _⟩
  · exact k
  · have := at_lt hb; omega
theorem is_begin {p : Par} {bs : List Nat} (h : Chain p bs) {t l : Nat} (hl : bs[bs.length - 1]? = some l) (h1 : 0 < t) (h2 : t ≤ l) (h3 : onn p t ≠ onn p (t - 1)) : ∃ j : Nat, bs[j]? = some t := by
  obtain ⟨i, b, hb, le, nx⟩ := place_ex h.1 t
  by_cases e : b = t
  · exact ⟨i, by rw [hb, e]⟩
  · exfalso
    by_cases c : i + 1 < bs.length
    · obtain ⟨d, hd⟩ := at_some c
      have r := (h.2 i b d hb hd).2.1
      have lt := nx d hd
      exact h3 ((r t le lt).trans (r (t - 1) (by omega) (by omega)).symm)
    · have il := at_lt hb
      have ei : i = bs.length - 1 := by omega
      rw [← ei, hb] at hl
      cases hl
      omega
/-- not from the tick before -/
theorem Rec.first {p : Par} {bs : List Nat} {back : Option Nat} {f T : Nat} (c : CourseOk p bs back) (h : Rec p bs back (some (f, T))) (hf : 0 < f) : onn p (f - 1) ≠ onn p (f - 1 + T) := by
  have n1 := c.ok.n1
  cases back with
  | none =>
    obtain ⟨b, hb, e⟩ := h
    split at e
    · cases e
      obtain ⟨_, b', hb', nv⟩ := c.fin rfl
      rw [hb] at hb'; cases hb'
      have m2 : bs.length - 1 ≠ 0 := fun z => by rw [z, c.chain.1] at hb; cases hb; omega
      obtain ⟨e2, he2⟩ := at_some (bs := bs) (i := bs.length - 2) (by omega)
      have nx := c.chain.2 (bs.length - 2) e2 f he2 (by rw [show bs.length - 2 + 1 = bs.length - 1 by omega]; exact hb)
      have g := nx.1
      rw [nx.2.1 (f - 1) (by omega) (by omega), nv (f - 1 + p.ch.length) (by omega)]
      exact fun q => nx.2.2 q.symm
    · cases e
  | some k =>
    obtain ⟨f', l, hf', hl, e⟩ := h
    obtain ⟨lt, pe⟩ := c.per rfl hf' hl
    obtain ⟨di, kl, f'', l'', hf'', hl'', st⟩ := c.rep k rfl
    rw [hf'] at hf''; cases hf''
    rw [hl] at hl''; cases hl''
    rcases e with ⟨rfl, e⟩ | ⟨k', e1, e2, rfl, h1, h2, e⟩
    · cases e
      rw [c.chain.1] at hf'; cases hf'
      omega
    · cases e
      have x1 := c.chain.2 k' e1 f' h1 hf'
      have x2 := c.chain.2 (bs.length - 2) e2 l h2 (by rw [show bs.length - 2 + 1 = bs.length - 1 by omega]; exact hl)
      have g1 := x1.1
      have g2 := x2.1
      have oe : onn p e1 = onn p e2 := by
        have q1 := x1.2.2
        have q2 := x2.2.2
        have : onn p f' = onn p l := by
          unfold stt at st
          simp only [Prod.mk.injEq] at st
          exact st.2.2
        cases y1 : onn p e1 <;> cases y2 : onn p e2 <;> cases y3 : onn p l <;> simp_all
      by_cases cmp : f' - e1 ≤ l - e2
      · rw [Nat.min_eq_left cmp] at hf ⊢
        have ef : f' - (f' - e1) = e1 := by omega
        rw [ef] at hf ⊢
        -- the stretch before e1
        have k1 : k' ≠ 0 := fun z => by subst z; rw [c.chain.1] at h1; cases h1; omega
        obtain ⟨e0, he0⟩ := at_some (bs := bs) (i := k' - 1) (by have := at_lt h1; omega)
        have x0 := c.chain.2 (k' - 1) e0 e1 he0 (by rw [show k' - 1 + 1 = k' by omega]; exact h1)
        have g0 := x0.1
        have o0 : onn p (e1 - 1) = onn p e0 := x0.2.1 _ (by omega) (by omega)
        by_cases eq : f' - e1 = l - e2
        · exfalso
          have be := back_eq x1 x2 st lt (f' - e1) (Nat.le_refl _) (by omega)
          rw [show l - (f' - e1) = e2 by omega, ef] at be
          have mm : e1 % p.ch.length = e2 % p.ch.length := by
            have s0 : f' % p.ch.length = l % p.ch.length := by
              unfold stt at st
              simp only [Prod.mk.injEq] at st
              exact st.1
            have := mod_cancel (x := e2) (y := e1) (c := f' - e1) (n := p.ch.length) (by
              have := c.chain.lt' (show k' < bs.length - 2 by omega) h1 h2
              omega) (by rw [show e2 + (f' - e1) = l by omega, show e1 + (f' - e1) = f' by omega]; exact s0.symm)
            exact this.symm
          refine di k' (bs.length - 2) e1 e2 (by omega) (by omega) h1 h2 ?_
          unfold stt
          rw [mm, show deg p e1 = deg p e2 from (congrArg Prod.fst be).symm, show onn p e1 = onn p e2 from (congrArg Prod.snd be).symm]
        · have o2 : onn p (e1 - 1 + (l - f')) = onn p e2 := x2.2.1 _ (by omega) (by omega)
          rw [o0, o2, ← oe]
          exact fun q => x0.2.2 q.symm
      · rw [Nat.min_eq_right (by omega)] at hf ⊢
        have o1 : onn p (f' - (l - e2) - 1) = onn p e1 := x1.2.1 _ (by omega) (by omega)
        -- the stretch before e2
        have m3 : bs.length - 2 ≠ 0 := by omega
        obtain ⟨e0, he0⟩ := at_some (bs := bs) (i := bs.length - 3) (by omega)
        have x0 := c.chain.2 (bs.length - 3) e0 e2 he0 (by rw [show bs.length - 3 + 1 = bs.length - 2 by omega]; exact h2)
        have g0 := x0.1
        have o0 : onn p (e2 - 1) = onn p e0 := x0.2.1 _ (by omega) (by omega)
        rw [o1, show f' - (l - e2) - 1 + (l - f') = e2 - 1 by omega, o0, oe]
        exact x0.2.2
/-- not after fewer ticks -/
theorem Rec.least {p : Par} {bs : List Nat} {back : Option Nat} {f T s : Nat} (c : CourseOk p bs back) (h : Rec p bs back (some (f, T))) (s0 : 0 < s) (s1 : s < T) (sn : s % p.ch.length = 0) (sT : T % s = 0) : ∃ t, f ≤ t ∧ t + s < f + T ∧ traj p (t + s) ≠ traj p t := by
  refine Classical.byContradiction fun no => ?_
  have all : ∀ t, f ≤ t → t + s < f + T → traj p (t + s) = traj p t := fun t h1 h2 => Classical.byContradiction fun q => no ⟨t, h1, h2, q⟩
  have n1 := c.ok.n1
  have e0 := all f (Nat.le_refl _) (by omega)
  have me : ∀ t, (t + s) % p.ch.length = t % p.ch.length := fun t => by
    rw [Nat.add_mod, sn, Nat.add_zero, Nat.mod_mod]
  have ste : ∀ t, traj p (t + s) = traj p t → stt p t = stt p (t + s) := fun t q => by
    unfold stt
    rw [me t, show deg p (t + s) = deg p t from congrArg Prod.fst q, show onn p (t + s) = onn p t from congrArg Prod.snd q]
  have ps : Per p f s := by
    have := per_of (ste f e0) (by omega)
    rw [show f + s - f = s by omega] at this
    exact this
  cases back with
  | none =>
    obtain ⟨b, hb, e⟩ := h
    split at e
    · cases e
      rw [Nat.mod_eq_of_lt s1] at sn
      omega
    · cases e
  | some k =>
    obtain ⟨f', l, hf', hl, e⟩ := h
    obtain ⟨lt, pe⟩ := c.per rfl hf' hl
    obtain ⟨di, kl, f'', l'', hf'', hl'', st⟩ := c.rep k rfl
    rw [hf'] at hf''; cases hf''
    rw [hl] at hl''; cases hl''
    rcases e with ⟨rfl, e⟩ | ⟨k', e1, e2, rfl, h1, h2, e⟩
    · cases e
      rw [c.chain.1] at hf'; cases hf'
      obtain ⟨e2, he2⟩ := at_some (bs := bs) (i := bs.length - 2) (by omega)
      have x2 := c.chain.2 (bs.length - 2) e2 l he2 (by rw [show bs.length - 2 + 1 = bs.length - 1 by omega]; exact hl)
      have g2 := x2.1
      have two : 2 * s ≤ l := by
        obtain ⟨q, hq⟩ := Nat.dvd_of_mod_eq_zero sT
        rw [Nat.sub_zero] at hq s1
        have : q ≠ 0 := fun z => by subst z; omega
        have : q ≠ 1 := fun z => by subst z; omega
        have := Nat.mul_le_mul_left s (show 2 ≤ q by omega)
        omega
      have a1 := ps (l - s) (by omega)
      have a2 := ps (l - s - 1) (by omega)
      rw [show l - s + s = l by omega] at a1
      rw [show l - s - 1 + s = l - 1 by omega] at a2
      have sw : onn p (l - s) ≠ onn p (l - s - 1) := by
        rw [show onn p (l - s) = onn p l from (congrArg Prod.snd a1).symm, show onn p (l - s - 1) = onn p (l - 1) from (congrArg Prod.snd a2).symm, x2.2.1 (l - 1) (by omega) (by omega)]
        exact x2.2.2
      obtain ⟨j, hj⟩ := is_begin c.chain hl (by omega) (by omega) sw
      have jl := at_lt hj
      have j0 : j ≠ 0 := fun z => by subst z; rw [c.chain.1] at hj; injection hj with hj; omega
      have jm : j ≠ bs.length - 1 := fun z => by subst z; rw [hl] at hj; injection hj with hj; omega
      refine di 0 j 0 (l - s) (by omega) (by omega) c.chain.1 hj ?_
      rw [st]
      have := ste (l - s) (by rw [show l - s + s = l by omega]; exact a1)
      rw [show l - s + s = l by omega] at this
      exact this.symm
    · cases e
      have x1 := c.chain.2 k' e1 f' h1 hf'
      have x2 := c.chain.2 (bs.length - 2) e2 l h2 (by rw [show bs.length - 2 + 1 = bs.length - 1 by omega]; exact hl)
      have g1 := x1.1
      have g2 := x2.1
      have a1 := ps f' (by omega)
      have a2 := ps (f' - 1) (by omega)
      have sw : onn p (f' + s) ≠ onn p (f' + s - 1) := by
        rw [show onn p (f' + s) = onn p f' from congrArg Prod.snd a1, show f' + s - 1 = f' - 1 + s by omega, show onn p (f' - 1 + s) = onn p (f' - 1) from congrArg Prod.snd a2, x1.2.1 (f' - 1) (by omega) (by omega)]
        exact x1.2.2
      obtain ⟨j, hj⟩ := is_begin c.chain hl (by omega) (by omega) sw
      have jl := at_lt hj
      have jk : k' + 1 < j := Nat.lt_of_not_le fun z => by
        have := c.chain.le' z hj hf'
        omega
      have jm : j ≠ bs.length - 1 := fun z => by subst z; rw [hl] at hj; injection hj with hj; omega
      exact di (k' + 1) j f' (f' + s) jk (by omega) hf' hj (ste f' a1)
/-- the ticks are whole rounds -/
theorem Rec.rounds {p : Par} {bs : List Nat} {back : Option Nat} {f T : Nat} (c : CourseOk p bs back) (h : Rec p bs back (some (f, T))) : T % p.ch.length = 0 := by
  cases back with
  | none =>
    obtain ⟨b, hb, e⟩ := h
    split at e
    · cases e; exact Nat.mod_self _
    · cases e
  | some k =>
    obtain ⟨f', l, hf', hl, e⟩ := h
    obtain ⟨lt, pe⟩ := c.per rfl hf' hl
    obtain ⟨di, kl, f'', l'', hf'', hl'', st⟩ := c.rep k rfl
    rw [hf'] at hf''; cases hf''
    rw [hl] at hl''; cases hl''
    have s0 : f' % p.ch.length = l % p.ch.length := by
      unfold stt at st
      simp only [Prod.mk.injEq] at st
      exact st.1
    have eT : T = l - f' := by
      rcases e with ⟨_, e⟩ | ⟨_, _, _, _, _, _, e⟩ <;> cases e <;> rfl
    rw [eT]
    exact Nat.sub_mod_eq_zero_of_mod_eq s0.symm
/-- without repetition: a line for ever -/
theorem Rec.line {p : Par} {bs : List Nat} {back : Option Nat} (c : CourseOk p bs back) (nr : Near p) (h : Rec p bs back none) : ∃ d : Int, d ≠ 0 ∧ (∀ t, 90000000000000000 ≤ t → deg p (t + p.ch.length) = deg p t + d) ∧ ∀ t u, 90000000000000000 ≤ t → 90000000000000000 ≤ u → Cn p t = Cn p u := by
  obtain rfl := h.none'
  obtain ⟨b, hb, e⟩ := h
  obtain ⟨_, b', hb', nv⟩ := c.fin rfl
  rw [hb] at hb'; cases hb'
  have bn := c.near nr hb
  have nz : rsum p.ch (gon p.g (onn p b)) ≠ 0 := fun z => by rw [if_pos z] at e; cases e
  refine ⟨_, nz, fun t ht => ?_, ?_⟩
  · have ot : onn p t = onn p b := nv t (by omega)
    have r : Run p t (t + p.ch.length) := fun u h1 h2 => (nv u (by omega)).trans ot.symm
    have e1 := run_deg (by omega) r
    have e2 := DD_round c.ok t t 1
    rw [Nat.one_mul, ot] at e2
    have e3 : DD p t (t + p.ch.length) = deg p (t + p.ch.length) := by unfold DD; omega
    have e4 : DD p t t = deg p t := by unfold DD; omega
    rw [← e3, e2, e4]
    simp
  · have key : ∀ t, 90000000000000000 ≤ t → Cn p t = Cn p b := fun t ht => by
      obtain ⟨d, rfl⟩ : ∃ d, t = b + d := ⟨t - b, by omega⟩
      exact Cn_run (fun u h1 h2 => nv u h1)
    intro t u h1 h2
    rw [key t h1, key u h2]
end Th

/-! the begins by number: plain Lean -/
namespace Th
/-- the tick in which the stretch with a number begins -/
def Nb (p : Par) (n : Nat) (r : Option Nat) : Prop :=
  match r with
  | some t => Cn p t = n + 1 ∧ (t = 0 ∨ onn p t ≠ onn p (t - 1))
  | none => ∀ t, Cn p t ≤ n
theorem Nx.sw {p : Par} {b e : Nat} (n : Nx p b e) : onn p e ≠ onn p (e - 1) := by
  rw [n.2.1 (e - 1) (by have := n.1; omega) (by have := n.1; omega)]
  exact n.2.2
theorem nb_kept {p : Par} {bs : List Nat} (h : Chain p bs) {n b : Nat} (hb : bs[n]? = some b) : Nb p n (some b) := by
  refine ⟨h.cn hb, ?_⟩
  cases n with
  | zero => rw [h.1] at hb; cases hb; exact .inl rfl
  | succ n =>
    obtain ⟨a, ha⟩ := at_some (bs := bs) (i := n) (by have := at_lt hb; omega)
    exact .inr (h.2 n a b ha hb).sw
theorem nb_none {p : Par} {bs : List Nat} (c : CourseOk p bs none) {n : Nat} (hn : bs.length ≤ n) : Nb p n none := fun t => by
  obtain ⟨i, b, hb, le, nx⟩ := place_ex c.chain.1 t
  have il := at_lt hb
  have q : Pl p bs none t 0 i t := ⟨⟨b, hb, le, nx⟩, fun _ => ⟨rfl, rfl⟩, fun _ _ _ e => nomatch e⟩
  have := (q.cn c).1
  omega
theorem nb_rep {p : Par} {bs : List Nat} {k : Nat} (c : CourseOk p bs (some k)) {n b f l : Nat} (hn : bs.length ≤ n) (hf : bs[k]? = some f) (hl : bs[bs.length - 1]? = some l)
    (hb : bs[k + (n - k) % (bs.length - 1 - k)]? = some b) : Nb p n (some (b + (n - k) / (bs.length - 1 - k) * (l - f))) := by
  obtain ⟨lt, pe⟩ := c.per rfl hf hl
  obtain ⟨_, kl, f', l', hf', hl', st⟩ := c.rep k rfl
  have dm := Nat.div_add_mod (n - k) (bs.length - 1 - k)
  have ml := Nat.mod_lt (n - k) (show 0 < bs.length - 1 - k by omega)
  generalize (n - k) % (bs.length - 1 - k) = rest at *
  have r1 : 1 ≤ (n - k) / (bs.length - 1 - k) := Nat.div_pos (by omega) (by omega)
  generalize (n - k) / (bs.length - 1 - k) = r at *
  have fb : f ≤ b := c.chain.le' (by omega) hf hb
  have z := pe.cnm fb r
  rw [Nat.add_sub_cancel' (Nat.le_of_lt lt), c.chain.cn hf, c.chain.cn hl, c.chain.cn hb] at z
  have e4 : r * (bs.length - 1 + 1) = r * (k + 1) + r * (bs.length - 1 - k) := by rw [← Nat.mul_add]; congr 1; omega
  rw [Nat.mul_comm] at dm
  refine ⟨by omega, .inr ?_⟩
  by_cases r0 : rest = 0
  · subst r0
    rw [Nat.add_zero, hf] at hb
    cases hb
    obtain ⟨q, rfl⟩ : ∃ q, r = q + 1 := ⟨r - 1, by omega⟩
    obtain ⟨e2, he2⟩ := at_some (bs := bs) (i := bs.length - 2) (by omega)
    have x2 := c.chain.2 (bs.length - 2) e2 l he2 (by rw [show bs.length - 2 + 1 = bs.length - 1 by omega]; exact hl)
    have a1 := pe.times (t := l) (Nat.le_of_lt lt) q
    have a2 := pe.times (t := l - 1) (by omega) q
    have e5  : b + (q + 1) * (l - b) = l + q * (l - b) := by rw [Nat.succ_mul]; omega
    rw [e5, show l + q * (l - b) - 1 = l - 1 + q * (l - b) by omega, show onn p (l + q * (l - b)) = onn p l from congrArg Prod.snd a1, show onn p (l - 1 + q * (l - b)) = onn p (l - 1) from congrArg Prod.snd a2]
    exact x2.sw
  · obtain ⟨e1, he1⟩ := at_some (bs := bs) (i := k + rest - 1) (by have := at_lt hb; omega)
    have x1 := c.chain.2 (k + rest - 1) e1 b he1 (by rw [show k + rest - 1 + 1 = k + rest by omega]; exact hb)
    have lt2 := c.chain.lt' (show k < k + rest by omega) hf hb
    have a1 := pe.times fb r
    have a2 := pe.times (t := b - 1) (by omega) r
    rw [show b + r * (l - f) - 1 = b - 1 + r * (l - f) by omega, show onn p (b + r * (l - f)) = onn p b from congrArg Prod.snd a1, show onn p (b - 1 + r * (l - f)) = onn p (b - 1) from congrArg Prod.snd a2]
    exact x1.sw
end Th

/-! the repetition and the share by the ticks alone; moved and later rooms: plain Lean -/
namespace Th
theorem Per.modp {p : Par} {f T s : Nat} (hT : Per p f T) (hs : Per p f s) : Per p f (s % T) := fun t ht => by
  have a := hT.times (t := t + s % T) (by omega) (s / T)
  have e : t + s % T + s / T * T = t + s := by
    have := Nat.div_add_mod s T
    rw [Nat.mul_comm] at this
    omega
  rw [e] at a
  rw [← a]
  exact hs t ht
theorem per_gcd {p : Par} {f : Nat} (T s : Nat) : Per p f T → Per p f s → Per p f (Nat.gcd T s) := by
  refine Nat.gcd.induction (P := fun T s => Per p f T → Per p f s → Per p f (Nat.gcd T s)) T s (fun n _ h => by rw [Nat.gcd_zero_left]; exact h) (fun m n _ ih h1 h2 => ?_)
  rw [Nat.gcd_rec]
  exact ih (h1.modp h2) h1
/-- what `repetition` says, by the ticks alone -/
def IsRep (p : Par) (r : Option (Nat × Nat)) : Prop :=
  match r with
  | some (f, T) => Per p f T ∧ 1 ≤ T ∧ T % p.ch.length = 0 ∧ (0 < f → ¬ Per p (f - 1) T) ∧ ∀ s f', 1 ≤ s → s % p.ch.length = 0 → Per p f' s → s % T = 0
  | none => ∀ f T, 1 ≤ T → T % p.ch.length = 0 → ¬ Per p f T
theorem Rec.nper {p : Par} {bs : List Nat} {back : Option Nat} (c : CourseOk p bs back) (h : Rec p bs back none) : ∀ f T, 1 ≤ T → T % p.ch.length = 0 → ¬ Per p f T := by
  obtain rfl := h.none'
  obtain ⟨b, hb, e⟩ := h
  obtain ⟨_, b', hb', nv⟩ := c.fin rfl
  rw [hb] at hb'; cases hb'
  have nz : rsum p.ch (gon p.g (onn p b)) ≠ 0 := fun z => by rw [if_pos z] at e; cases e
  intro f T hT hn pe
  obtain ⟨k, hk⟩ := Nat.dvd_of_mod_eq_zero hn
  have k1 : 1 ≤ k := by
    cases k with
    | zero => rw [Nat.mul_zero] at hk; omega
    | succ k => omega
  have ot : onn p (f + b) = onn p b := nv _ (by omega)
  have r : Run p (f + b) (f + b + T) := fun u h1 h2 => (nv u (by omega)).trans ot.symm
  have e1 := run_deg (by omega) r
  have e2 := DD_round c.ok (f + b) (f + b) k
  rw [ot] at e2
  have e3 : DD p (f + b) (f + b + T) = deg p (f + b + T) := by unfold DD; omega
  have e4 : DD p (f + b) (f + b) = deg p (f + b) := by unfold DD; omega
  have e5 : deg p (f + b + T) = deg p (f + b) := congrArg Prod.fst (pe (f + b) (by omega))
  rw [Nat.mul_comm, ← hk, e3, e4, e5] at e2
  have z : (k : Int) * rsum p.ch (gon p.g (onn p b)) = 0 := by omega
  rcases Int.mul_eq_zero.mp z with z | z
  · omega
  · exact nz z
theorem Rec.isRep {p : Par} {bs : List Nat} {back : Option Nat} {r : Option (Nat × Nat)} (c : CourseOk p bs back) (h : Rec p bs back r) : IsRep p r := by
  match r, h with
  | none, h => exact h.nper c
  | some (f, T), h =>
    obtain ⟨pe, T1, _⟩ := h.per c
    have Tn := h.rounds c
    refine ⟨pe, T1, Tn, fun f0 q => ?_, fun s f' s1 sn ps => ?_⟩
    · refine h.first c f0 ?_
      exact (congrArg Prod.snd (q (f - 1) (Nat.le_refl _))).symm
    · have pg : Per p (max f f') (Nat.gcd T s) := per_gcd T s (pe.mono (by omega)) (ps.mono (by omega))
      have g0 : 0 < Nat.gcd T s := Nat.gcd_pos_of_pos_left _ T1
      have gT : Nat.gcd T s ∣ T := Nat.gcd_dvd_left T s
      have gs : Nat.gcd T s ∣ s := Nat.gcd_dvd_right T s
      by_cases q : Nat.gcd T s = T
      · rw [q] at gs
        exact Nat.mod_eq_zero_of_dvd gs
      · have lt : Nat.gcd T s < T := by have := Nat.le_of_dvd T1 gT; omega
        have gn : Nat.gcd T s % p.ch.length = 0 := Nat.mod_eq_zero_of_dvd (Nat.dvd_gcd (Nat.dvd_of_mod_eq_zero Tn) (Nat.dvd_of_mod_eq_zero sn))
        obtain ⟨t, t1, t2, t3⟩ := h.least c g0 lt gn (Nat.mod_eq_zero_of_dvd gT)
        have a1 := pe.times (t := t) t1 (max f f')
        have a2 := pe.times (t := t + Nat.gcd T s) (by omega) (max f f')
        have big : max f f' ≤ max f f' * T := Nat.le_mul_of_pos_right _ T1
        have a3 := pg (t + max f f' * T) (by omega)
        rw [show t + max f f' * T + Nat.gcd T s = t + Nat.gcd T s + max f f' * T by omega, a1, a2] at a3
        exact absurd a3 t3
theorem IsRep.uniq {p : Par} {r r' : Option (Nat × Nat)} (h : IsRep p r) (h' : IsRep p r') : r = r' := by
  match r, r', h, h' with
  | none, none, _, _ => rfl
  | none, some (f, T), h, ⟨a, b, c, _⟩ => exact absurd a (h f T b c)
  | some (f, T), none, ⟨a, b, c, _⟩, h => exact absurd a (h f T b c)
  | some (f, T), some (f', T'), ⟨a, b, c, d, e⟩, ⟨a', b', c', d', e'⟩ =>
    have m1 := Nat.dvd_of_mod_eq_zero (e T' f' b' c' a')
    have m2 := Nat.dvd_of_mod_eq_zero (e' T f b c a)
    have eT : T = T' := Nat.dvd_antisymm m1 m2
    subst eT
    have ef : f = f' := by
      rcases Nat.lt_trichotomy f f' with q | q | q
      · exact absurd (a.mono (by omega)) (d' (by omega))
      · exact q
      · exact absurd (a'.mono (by omega)) (d (by omega))
    rw [ef]
/-! the share -/
def OPer (p : Par) (N T : Nat) : Prop := ∀ t, N ≤ t → onn p (t + T) = onn p t
theorem OPer.heat {p : Par} {f T : Nat} (h : OPer p f T) : ∀ j, Hc p (f + j + T) - Hc p (f + j) = Hc p (f + T) - Hc p f
  | 0 => rfl
  | j + 1 => by
    have ih := h.heat j
    have e := h (f + j) (by omega)
    have c1 : Hc p (f + (j + 1) + T) = Hc p (f + j + T) + (if onn p (f + j + T) then 1 else 0) := by rw [show f + (j + 1) + T = f + j + T + 1 by omega]; rfl
    have c2 : Hc p (f + (j + 1)) = Hc p (f + j) + (if onn p (f + j) then 1 else 0) := rfl
    rw [c1, c2, e]
    omega
theorem OPer.heats {p : Par} {f T : Nat} (h : OPer p f T) {t : Nat} (ht : f ≤ t) : ∀ m : Nat, Hc p (t + m * T) = Hc p t + (m : Int) * (Hc p (f + T) - Hc p f)
  | 0 => by simp
  | m + 1 => by
    have ih := h.heats ht m
    have e := h.heat (t + m * T - f)
    rw [show f + (t + m * T - f) = t + m * T by omega] at e
    rw [Nat.succ_mul, ← Nat.add_assoc, Int.natCast_add, Int.add_mul]
    simp only [Int.natCast_one, Int.one_mul]
    omega
def IsShare (p : Par) (top bot : Nat) : Prop := 1 ≤ bot ∧ Nat.gcd top bot = 1 ∧ ∃ N T, 1 ≤ T ∧ OPer p N T ∧ (top : Int) * (T : Int) = (bot : Int) * (Hc p (N + T) - Hc p N)
theorem coprime_eq {a b c d : Nat} (hb : 1 ≤ b) (hd : 1 ≤ d) (g1 : Nat.gcd a b = 1) (g2 : Nat.gcd c d = 1) (e : a * d = c * b) : a = c ∧ b = d := by
  have h1 : b ∣ d := by
    have : b ∣ a * d := ⟨c, by rw [e, Nat.mul_comm]⟩
    have c1 : Nat.gcd b a = 1 := by rw [Nat.gcd_comm]; exact g1
    exact Nat.Coprime.dvd_of_dvd_mul_left c1 this
  have h2 : d ∣ b := by
    have : d ∣ c * b := ⟨a, by rw [← e, Nat.mul_comm]⟩
    have c1 : Nat.gcd d c = 1 := by rw [Nat.gcd_comm]; exact g2
    exact Nat.Coprime.dvd_of_dvd_mul_left c1 this
  have eb : b = d := Nat.dvd_antisymm h1 h2
  subst eb
  exact ⟨Nat.eq_of_mul_eq_mul_right hb e, rfl⟩
theorem IsShare.uniq {p : Par} {t b t' b' : Nat} (h : IsShare p t b) (h' : IsShare p t' b') : t = t' ∧ b = b' := by
  obtain ⟨b1, g1, N, T, T1, o1, e1⟩ := h
  obtain ⟨b2, g2, M, S, S1, o2, e2⟩ := h'
  have x1 := o1.heats (t := max N M) (by omega) S
  have x2 := o2.heats (t := max N M) (by omega) T
  rw [Nat.mul_comm] at x1
  have x : (S : Int) * (Hc p (N + T) - Hc p N) = (T : Int) * (Hc p (M + S) - Hc p M) := by omega
  generalize Hc p (N + T) - Hc p N = A at *
  generalize Hc p (M + S) - Hc p M = B at *
  refine coprime_eq b1 b2 g1 g2 ?_
  have k : ((t : Int) * b') * ((T : Int) * S) = ((t' : Int) * b) * ((T : Int) * S) := by
    calc ((t : Int) * b') * ((T : Int) * S) = ((t : Int) * T) * ((b' : Int) * S) := by ac_rfl
      _ = ((b : Int) * A) * ((b' : Int) * S) := by rw [e1]
      _ = ((b : Int) * b') * ((S : Int) * A) := by ac_rfl
      _ = ((b : Int) * b') * ((T : Int) * B) := by rw [x]
      _ = ((b' : Int) * B) * ((b : Int) * T) := by ac_rfl
      _ = ((t' : Int) * S) * ((b : Int) * T) := by rw [e2]
      _ = ((t' : Int) * b) * ((T : Int) * S) := by ac_rfl
  have nz : ((T : Int) * S) ≠ 0 := by
    intro z
    rcases Int.mul_eq_zero.mp z with z | z <;> omega
  have k2 := Int.eq_of_mul_eq_mul_right nz k
  have k3 : ((t * b' : Nat) : Int) = ((t' * b : Nat) : Int) := by rw [Int.natCast_mul, Int.natCast_mul]; exact k2
  exact Int.ofNat.inj k3
theorem Share.isShare {p : Par} {bs : List Nat} {back : Option Nat} {t b : Nat} (c : CourseOk p bs back) (h : Share p bs back t b) : IsShare p t b := by
  cases eb : back with
  | none =>
    subst eb
    obtain ⟨b0, hb, rfl, rfl⟩ := h
    obtain ⟨_, b', hb', nv⟩ := c.fin rfl
    rw [hb] at hb'; cases hb'
    refine ⟨Nat.le_refl _, Nat.gcd_one_right _, b0, 1, Nat.le_refl _, fun t ht => (nv _ (by omega)).trans (nv t ht).symm, ?_⟩
    have e : Hc p (b0 + 1) = Hc p b0 + (if onn p b0 then 1 else 0) := rfl
    rw [e]
    split <;> simp <;> omega
  | some k =>
    subst eb
    obtain ⟨f, l, h, hf, hl, eh, hle, rfl, rfl⟩ := h
    obtain ⟨lt, pe⟩ := c.per rfl hf hl
    have g0 : 0 < Nat.gcd h (l - f) := Nat.gcd_pos_of_pos_right _ (by omega)
    obtain ⟨x, hx⟩ := Nat.gcd_dvd_left h (l - f)
    obtain ⟨y, hy⟩ := Nat.gcd_dvd_right h (l - f)
    have ex : h / Nat.gcd h (l - f) = x := Nat.div_eq_of_eq_mul_right g0 hx
    have ey : (l - f) / Nat.gcd h (l - f) = y := Nat.div_eq_of_eq_mul_right g0 hy
    rw [ex, ey]
    have y1 : 1 ≤ y := by
      cases y with
      | zero => rw [Nat.mul_zero] at hy; omega
      | succ y => omega
    refine ⟨y1, ?_, f, l - f, by omega, fun t ht => congrArg Prod.snd (pe t ht), ?_⟩
    · have e : Nat.gcd (Nat.gcd h (l - f) * x) (Nat.gcd h (l - f) * y) = Nat.gcd h (l - f) * Nat.gcd x y := Nat.gcd_mul_left _ _ _
      rw [← hx, ← hy] at e
      exact Nat.eq_of_mul_eq_mul_left g0 (by rw [← e, Nat.mul_one])
    · rw [show f + (l - f) = l by omega, eh, ← Int.natCast_mul, ← Int.natCast_mul]
      congr 1
      generalize Nat.gcd h (l - f) = g at *
      rw [hy, hx]
      ac_rfl
/-! a room with all temperatures higher -/
def mvd (p : Par) (d : Int) : Par := { p with lo := p.lo + d, hi := p.hi + d, st := p.st + d }
theorem hst_mvd (x lo hi d : Int) (b : Bool) : hst (x + d) (lo + d) (hi + d) b = hst x lo hi b := by
  unfold hst
  have e1 : (x + d < lo + d) = (x < lo) := propext ⟨fun h => by omega, fun h => by omega⟩
  have e2 : (x + d > hi + d) = (x > hi) := propext ⟨fun h => by omega, fun h => by omega⟩
  simp only [e1, e2]
theorem traj_mvd (p : Par) (d : Int) : ∀ t, traj (mvd p d) t = ((traj p t).1 + d, (traj p t).2)
  | 0 => by
    show (p.st + d, hst (p.st + d) (p.lo + d) (p.hi + d) p.on0) = (p.st + d, hst p.st p.lo p.hi p.on0)
    rw [hst_mvd]
  | t + 1 => by
    have ih := traj_mvd p d t
    show stepT (mvd p d) t (traj (mvd p d) t) = ((stepT p t (traj p t)).1 + d, (stepT p t (traj p t)).2)
    rw [ih]
    generalize traj p t = x
    show ((x.1 + d) + chAt p.ch t + gon p.g x.2, hst ((x.1 + d) + chAt p.ch t + gon p.g x.2) (p.lo + d) (p.hi + d) x.2) = (x.1 + chAt p.ch t + gon p.g x.2 + d, hst (x.1 + chAt p.ch t + gon p.g x.2) p.lo p.hi x.2)
    have e : (x.1 + d) + chAt p.ch t + gon p.g x.2 = x.1 + chAt p.ch t + gon p.g x.2 + d := by omega
    rw [e, hst_mvd]
theorem deg_mvd (p : Par) (d : Int) (t : Nat) : deg (mvd p d) t = deg p t + d := by unfold deg; rw [traj_mvd]
theorem onn_mvd (p : Par) (d : Int) (t : Nat) : onn (mvd p d) t = onn p t := by unfold onn; rw [traj_mvd]
theorem per_mvd (p : Par) (d : Int) (f T : Nat) : Per (mvd p d) f T ↔ Per p f T := by
  refine ⟨fun h t ht => ?_, fun h t ht => ?_⟩
  · have := h t ht
    rw [traj_mvd, traj_mvd] at this
    have e1 := congrArg Prod.fst this
    have e2 := congrArg Prod.snd this
    exact Prod.ext (by simp only at e1; omega) e2
  · rw [traj_mvd, traj_mvd, h t ht]
theorem Hc_mvd (p : Par) (d : Int) : ∀ t, Hc (mvd p d) t = Hc p t
  | 0 => rfl
  | t + 1 => by
    show Hc (mvd p d) t + (if onn (mvd p d) t then 1 else 0) = Hc p t + (if onn p t then 1 else 0)
    rw [Hc_mvd p d t, onn_mvd]
theorem rep_mvd {p : Par} {d : Int} {r : Option (Nat × Nat)} (h : IsRep (mvd p d) r) : IsRep p r := by
  match r, h with
  | none, h => exact fun f T a b q => h f T a b ((per_mvd p d f T).mpr q)
  | some (f, T), ⟨a, b, c, e, g⟩ => exact ⟨(per_mvd p d f T).mp a, b, c, fun q z => e q ((per_mvd p d _ T).mpr z), fun s f' s1 s2 s3 => g s f' s1 s2 ((per_mvd p d f' s).mpr s3)⟩
theorem share_mvd {p : Par} {d : Int} {t b : Nat} (h : IsShare (mvd p d) t b) : IsShare p t b := by
  obtain ⟨b1, g1, N, T, T1, o1, e1⟩ := h
  refine ⟨b1, g1, N, T, T1, fun u hu => ?_, ?_⟩
  · have := o1 u hu
    rw [onn_mvd, onn_mvd] at this
    exact this
  · rw [Hc_mvd, Hc_mvd] at e1
    exact e1
/-! a room that begins later -/
def ltr (p : Par) (k : Nat) : Par := { p with ch := p.ch.drop (k % p.ch.length) ++ p.ch.take (k % p.ch.length), st := deg p k, on0 := onn p (k - 1) }
theorem ltr_len (p : Par) (k : Nat) : (ltr p k).ch.length = p.ch.length := by
  show (p.ch.drop (k % p.ch.length) ++ p.ch.take (k % p.ch.length)).length = _
  rw [List.length_append, List.length_drop, List.length_take]
  by_cases z : p.ch.length = 0
  · omega
  · have := Nat.mod_lt k (show 0 < p.ch.length by omega)
    omega
theorem chAt_ltr {p : Par} (n1 : 1 ≤ p.ch.length) (k t : Nat) : chAt (ltr p k).ch t = chAt p.ch (k + t) := by
  unfold chAt
  rw [ltr_len]
  show (p.ch.drop (k % p.ch.length) ++ p.ch.take (k % p.ch.length)).getD (t % p.ch.length) 0 = _
  have m := Nat.mod_lt k (show 0 < p.ch.length by omega)
  have u := Nat.mod_lt t (show 0 < p.ch.length by omega)
  have e : (k + t) % p.ch.length = (k % p.ch.length + t % p.ch.length) % p.ch.length := Nat.add_mod _ _ _
  rw [e]
  generalize k % p.ch.length = x at *
  generalize t % p.ch.length = y at *
  rw [List.getD_eq_getElem?_getD, List.getD_eq_getElem?_getD]
  by_cases c : x + y < p.ch.length
  · rw [Nat.mod_eq_of_lt c, List.getElem?_append_left (by rw [List.length_drop]; omega), List.getElem?_drop]
  · rw [List.getElem?_append_right (by rw [List.length_drop]; omega), List.length_drop, Nat.mod_eq_sub_mod (by omega), Nat.mod_eq_of_lt (by omega), List.getElem?_take_of_lt (by omega)]
    congr 2
    omega
theorem traj_ltr {p : Par} (n1 : 1 ≤ p.ch.length) {k : Nat} (k1 : 1 ≤ k) : ∀ t, traj (ltr p k) t = traj p (k + t)
  | 0 => by
    obtain ⟨j, rfl⟩ : ∃ j, k = j + 1 := ⟨k - 1, by omega⟩
    show (deg p (j + 1), hst (deg p (j + 1)) p.lo p.hi (onn p (j + 1 - 1))) = traj p (j + 1)
    rw [show j + 1 - 1 = j by omega, ← onn_succ]
    rfl
  | t + 1 => by
    have ih := traj_ltr n1 k1 t
    show stepT (ltr p k) t (traj (ltr p k) t) = stepT p (k + t) (traj p (k + t))
    rw [ih]
    unfold stepT
    rw [chAt_ltr n1]
    rfl
theorem deg_ltr {p : Par} (n1 : 1 ≤ p.ch.length) {k : Nat} (k1 : 1 ≤ k) (t : Nat) : deg (ltr p k) t = deg p (k + t) := congrArg Prod.fst (traj_ltr n1 k1 t)
theorem onn_ltr {p : Par} (n1 : 1 ≤ p.ch.length) {k : Nat} (k1 : 1 ≤ k) (t : Nat) : onn (ltr p k) t = onn p (k + t) := congrArg Prod.snd (traj_ltr n1 k1 t)
theorem per_ltr {p : Par} (n1 : 1 ≤ p.ch.length) {k : Nat} (k1 : 1 ≤ k) (f T : Nat) : Per (ltr p k) f T ↔ Per p (k + f) T := by
  refine ⟨fun h t ht => ?_, fun h t ht => ?_⟩
  · have := h (t - k) (by omega)
    rw [traj_ltr n1 k1, traj_ltr n1 k1, show k + (t - k + T) = t + T by omega, show k + (t - k) = t by omega] at this
    exact this
  · rw [traj_ltr n1 k1, traj_ltr n1 k1, show k + (t + T) = k + t + T by omega]
    exact h (k + t) (by omega)
theorem rep_ltr {p : Par} (n1 : 1 ≤ p.ch.length) {k : Nat} (k1 : 1 ≤ k) {f T : Nat} (h : IsRep p (some (f, T))) : IsRep (ltr p k) (some (f - k, T)) := by
  obtain ⟨a, b, c, e, g⟩ := h
  refine ⟨(per_ltr n1 k1 _ T).mpr (a.mono (by omega)), b, by rw [ltr_len]; exact c, fun q z => ?_, fun s f' s1 s2 s3 => ?_⟩
  · have := (per_ltr n1 k1 _ T).mp z
    rw [show k + (f - k - 1) = f - 1 by omega] at this
    exact e (by omega) this
  · rw [ltr_len] at s2
    exact g s (k + f') s1 s2 ((per_ltr n1 k1 f' s).mp s3)
theorem Hc_ltr {p : Par} (n1 : 1 ≤ p.ch.length) {k : Nat} (k1 : 1 ≤ k) : ∀ t, Hc (ltr p k) t = Hc p (k + t) - Hc p k
  | 0 => by show (0 : Int) = Hc p k - Hc p k; omega
  | t + 1 => by
    have ih := Hc_ltr n1 k1 t
    show Hc (ltr p k) t + (if onn (ltr p k) t then 1 else 0) = Hc p (k + t) + (if onn p (k + t) then 1 else 0) - Hc p k
    rw [ih, onn_ltr n1 k1]
    omega
theorem share_ltr {p : Par} (n1 : 1 ≤ p.ch.length) {k : Nat} (k1 : 1 ≤ k) {t b : Nat} (h : IsShare (ltr p k) t b) : IsShare p t b := by
  obtain ⟨b1, g1, N, T, T1, o1, e1⟩ := h
  refine ⟨b1, g1, k + N, T, T1, fun u hu => ?_, ?_⟩
  · have := o1 (u - k) (by omega)
    rw [onn_ltr n1 k1, onn_ltr n1 k1, show k + (u - k + T) = u + T by omega, show k + (u - k) = u by omega] at this
    exact this
  · rw [Hc_ltr n1 k1, Hc_ltr n1 k1] at e1
    rw [e1, show k + N + T = k + (N + T) by omega]
    congr 1
    omega
/-- the switchings that a later room counts on -/
theorem Cn_ltr {p : Par} (n1 : 1 ≤ p.ch.length) {k : Nat} (k1 : 1 ≤ k) : ∀ t, (Cn p (k + t) : Int) = Cn (ltr p k) t + Cn p (k - 1) - (if onn (ltr p k) 0 = (ltr p k).on0 then 1 else 0)
  | 0 => by
    obtain ⟨j, rfl⟩ : ∃ j, k = j + 1 := ⟨k - 1, by omega⟩
    rw [onn_ltr n1 k1]
    show ((Cn p j + (if onn p (j + 1) = onn p j then 0 else 1) : Nat) : Int) = (1 : Nat) + Cn p (j + 1 - 1) - (if onn p (j + 1 + 0) = onn p (j + 1 - 1) then 1 else 0)
    rw [show j + 1 - 1 = j by omega, Nat.add_zero]
    split <;> omega
  | t + 1 => by
    have ih := Cn_ltr n1 k1 t
    show ((Cn p (k + t) + (if onn p (k + t + 1) = onn p (k + t) then 0 else 1) : Nat) : Int) = ((Cn (ltr p k) t + (if onn (ltr p k) (t + 1) = onn (ltr p k) t then 0 else 1) : Nat) : Int) + Cn p (k - 1) - _
    rw [onn_ltr n1 k1 (t + 1), onn_ltr n1 k1 t, show k + (t + 1) = k + t + 1 by omega]
    split <;> omega
end Th

/-! courses without the bound on different stretches; costs of ticks with heating: plain Lean -/
namespace Th
/-- a course whose begins may repeat themselves -/
structure CourseX (p : Par) (bs : List Nat) (back : Option Nat) : Prop where
  ok : p.Ok
  chain : Chain p bs
  len : bs.length ≤ 240000
  far : ∀ (i b : Nat), bs[i]? = some b → b ≤ 11522400000000000000
  fin : back = none → True ∧ ∃ b, bs[bs.length - 1]? = some b ∧ Nev p b
  rep : ∀ k, back = some k → True ∧ k + 1 < bs.length ∧ ∃ f l, bs[k]? = some f ∧ bs[bs.length - 1]? = some l ∧ stt p f = stt p l
theorem CourseOk.x {p : Par} {bs : List Nat} {back : Option Nat} (h : CourseOk p bs back) : CourseX p bs back :=
  ⟨h.ok, h.chain, Nat.le_trans h.len (by decide), fun i b e => Nat.le_trans (h.far i b e) (by decide), fun e => ⟨trivial, (h.fin e).2⟩, fun k e => ⟨trivial, (h.rep k e).2⟩⟩
instance {p : Par} {bs : List Nat} {back : Option Nat} : Coe (CourseOk p bs back) (CourseX p bs back) := ⟨CourseOk.x⟩
theorem CourseX.per {p : Par} {bs : List Nat} {back : Option Nat} (h : CourseX p bs back) {k f l : Nat} (e : back = some k) (hf : bs[k]? = some f) (hl : bs[bs.length - 1]? = some l) : f < l ∧ Per p f (l - f) := by
  obtain ⟨_, kl, f', l', hf', hl', st⟩ := h.rep k e
  rw [hf] at hf'; cases hf'
  rw [hl] at hl'; cases hl'
  have lt := h.chain.lt' (show k < bs.length - 1 by omega) hf hl
  exact ⟨lt, per_of st (Nat.le_of_lt lt)⟩
/-- the heater in the stretch, and back to the tick -/
theorem Pl.stayX {p : Par} {bs : List Nat} {back : Option Nat} {t r i t' b : Nat} (h : CourseX p bs back) (q : Pl p bs back t r i t') (hb : bs[i]? = some b) : b ≤ t' ∧ Run p b (t' + 1) := by
  obtain ⟨b', hb', le, nxt⟩ := q.at'
  rw [hb] at hb'; cases hb'
  refine ⟨le, fun u h1 h2 => ?_⟩
  by_cases c : i + 1 < bs.length
  · obtain ⟨e, he⟩ := at_some c
    have := nxt e he
    exact (h.chain.2 i b e hb he).2.1 u h1 (by omega)
  · have il := at_lt hb
    have ei : i = bs.length - 1 := by omega
    subst ei
    cases eb : back with
    | none =>
      obtain ⟨_, b', hb', nv⟩ := h.fin eb
      rw [hb] at hb'; cases hb'
      exact nv u h1
    | some k =>
      obtain ⟨_, kl, f', l', hf', hl', st⟩ := h.rep k eb
      have := (q.som k f' l' eb hf' hl').2.1
      rw [hb] at hl'; cases hl'
      omega
theorem Pl.againX {p : Par} {bs : List Nat} {back : Option Nat} {t r i t' : Nat} (h : CourseX p bs back) (q : Pl p bs back t r i t') : traj p t = traj p t' := by
  cases eb : back with
  | none => rw [(q.non eb).2]
  | some k =>
    obtain ⟨_, kl, f', l', hf', hl', st⟩ := h.rep k eb
    obtain ⟨e1, e2, e3⟩ := q.som k f' l' eb hf' hl'
    obtain ⟨lt, pe⟩ := h.per eb hf' hl'
    by_cases hr : 0 < r
    · rw [e1]; exact pe.times (e3 hr) r
    · have : r = 0 := by omega
      subst this
      rw [e1]; simp
theorem Pl.onX {p : Par} {bs : List Nat} {back : Option Nat} {t r i t' b : Nat} (h : CourseX p bs back) (q : Pl p bs back t r i t') (hb : bs[i]? = some b) : onn p t = onn p b := by
  obtain ⟨le, run⟩ := q.stayX h hb
  have e : onn p t = onn p t' := congrArg Prod.snd (q.againX h)
  rw [e, run t' le (by omega)]
theorem Pl.zeroX {p : Par} {bs : List Nat} {back : Option Nat} {t r i t' b : Nat} (h : CourseX p bs back) (q : Pl p bs back t r i t') (hb : bs[i]? = some b) (h0 : r = 0) : t = t' := by
  subst h0
  cases eb : back with
  | none => exact (q.non eb).2.symm
  | some k =>
    obtain ⟨_, kl, f', l', hf', hl', st⟩ := h.rep k eb
    have := (q.som k f' l' eb hf' hl').1
    simpa using this
theorem Pl.cnX {p : Par} {bs : List Nat} {back : Option Nat} {t r i t' : Nat} (h : CourseX p bs back) (q : Pl p bs back t r i t') : Cn p t' = i + 1 ∧ (r = 0 → t = t') ∧ ∀ k, back = some k → 0 < r → k + 1 < bs.length ∧ Cn p t = i + 1 + r * (bs.length - 1 - k) := by
  obtain ⟨b, hb, le, nx⟩ := q.at'
  obtain ⟨_, run⟩ := q.stayX h hb
  have c1 : Cn p t' = i + 1 := by
    obtain ⟨d, rfl⟩ : ∃ d, t' = b + d := ⟨t' - b, by omega⟩
    rw [Cn_run run, h.chain.cn hb]
  refine ⟨c1, q.zeroX h hb, fun k eb hr => ?_⟩
  obtain ⟨_, kl, f, l, hf, hl, st⟩ := h.rep k eb
  obtain ⟨e1, e2, e3⟩ := q.som k f l eb hf hl
  obtain ⟨lt, pe⟩ := h.per eb hf hl
  have z := pe.cnm (e3 hr) r
  rw [Nat.add_sub_cancel' (Nat.le_of_lt lt), ← e1, h.chain.cn hf, h.chain.cn hl, c1] at z
  refine ⟨kl, ?_⟩
  have e4 : r * (bs.length - 1 + 1) = r * (k + 1) + r * (bs.length - 1 - k) := by rw [← Nat.mul_add]; congr 1; omega
  omega
theorem nb_noneX {p : Par} {bs : List Nat} (c : CourseX p bs none) {n : Nat} (hn : bs.length ≤ n) : Nb p n none := fun t => by
  obtain ⟨i, b, hb, le, nx⟩ := place_ex c.chain.1 t
  have il := at_lt hb
  have q : Pl p bs none t 0 i t := ⟨⟨b, hb, le, nx⟩, fun _ => ⟨rfl, rfl⟩, fun _ _ _ e => nomatch e⟩
  have := (q.cnX c).1
  omega
theorem nb_repX {p : Par} {bs : List Nat} {k : Nat} (c : CourseX p bs (some k)) {n b f l : Nat} (hn : bs.length ≤ n) (hf : bs[k]? = some f) (hl : bs[bs.length - 1]? = some l)
    (hb : bs[k + (n - k) % (bs.length - 1 - k)]? = some b) : Nb p n (some (b + (n - k) / (bs.length - 1 - k) * (l - f))) := by
  obtain ⟨lt, pe⟩ := c.per rfl hf hl
  obtain ⟨_, kl, f', l', hf', hl', st⟩ := c.rep k rfl
  have dm := Nat.div_add_mod (n - k) (bs.length - 1 - k)
  have ml := Nat.mod_lt (n - k) (show 0 < bs.length - 1 - k by omega)
  generalize (n - k) % (bs.length - 1 - k) = rest at *
  have r1 : 1 ≤ (n - k) / (bs.length - 1 - k) := Nat.div_pos (by omega) (by omega)
  generalize (n - k) / (bs.length - 1 - k) = r at *
  have fb : f ≤ b := c.chain.le' (by omega) hf hb
  have z := pe.cnm fb r
  rw [Nat.add_sub_cancel' (Nat.le_of_lt lt), c.chain.cn hf, c.chain.cn hl, c.chain.cn hb] at z
  have e4 : r * (bs.length - 1 + 1) = r * (k + 1) + r * (bs.length - 1 - k) := by rw [← Nat.mul_add]; congr 1; omega
  rw [Nat.mul_comm] at dm
  refine ⟨by omega, .inr ?_⟩
  by_cases r0 : rest = 0
  · subst r0
    rw [Nat.add_zero, hf] at hb
    cases hb
    obtain ⟨q, rfl⟩ : ∃ q, r = q + 1 := ⟨r - 1, by omega⟩
    obtain ⟨e2, he2⟩ := at_some (bs := bs) (i := bs.length - 2) (by omega)
    have x2 := c.chain.2 (bs.length - 2) e2 l he2 (by rw [show bs.length - 2 + 1 = bs.length - 1 by omega]; exact hl)
    have a1 := pe.times (t := l) (Nat.le_of_lt lt) q
    have a2 := pe.times (t := l - 1) (by omega) q
    have e5  : b + (q + 1) * (l - b) = l + q * (l - b) := by rw [Nat.succ_mul]; omega
    rw [e5, show l + q * (l - b) - 1 = l - 1 + q * (l - b) by omega, show onn p (l + q * (l - b)) = onn p l from congrArg Prod.snd a1, show onn p (l - 1 + q * (l - b)) = onn p (l - 1) from congrArg Prod.snd a2]
    exact x2.sw
  · obtain ⟨e1, he1⟩ := at_some (bs := bs) (i := k + rest - 1) (by have := at_lt hb; omega)
    have x1 := c.chain.2 (k + rest - 1) e1 b he1 (by rw [show k + rest - 1 + 1 = k + rest by omega]; exact hb)
    have lt2 := c.chain.lt' (show k < k + rest by omega) hf hb
    have a1 := pe.times fb r
    have a2 := pe.times (t := b - 1) (by omega) r
    rw [show b + r * (l - f) - 1 = b - 1 + r * (l - f) by omega, show onn p (b + r * (l - f)) = onn p b from congrArg Prod.snd a1, show onn p (b - 1 + r * (l - f)) = onn p (b - 1) from congrArg Prod.snd a2]
    exact x1.sw
/-! ### the begins by number, again -/
theorem Cn_mono (p : Par) (a : Nat) : ∀ d, Cn p a ≤ Cn p (a + d)
  | 0 => Nat.le_refl _
  | d + 1 => by have := Cn_mono p a d; show _ ≤ Cn p (a + d) + _; omega
theorem Cn_le' (p : Par) {a b : Nat} (h : a ≤ b) : Cn p a ≤ Cn p b := by
  have := Cn_mono p a (b - a)
  rwa [Nat.add_sub_cancel' h] at this
theorem nb_prev {p : Par} {n t : Nat} (h : Nb p n (some t)) (t0 : t ≠ 0) : Cn p (t - 1) = n ∧ onn p t ≠ onn p (t - 1) := by
  obtain ⟨h1, h2⟩ := h
  obtain ⟨u, rfl⟩ : ∃ u, t = u + 1 := ⟨t - 1, by omega⟩
  have ne : onn p (u + 1) ≠ onn p u := h2.resolve_left t0
  have e : Cn p (u + 1) = Cn p u + (if onn p (u + 1) = onn p u then 0 else 1) := rfl
  rw [if_neg ne] at e
  refine ⟨?_, ne⟩
  show Cn p u = n
  omega
theorem nb_uniq {p : Par} {n a b : Nat} (h1 : Nb p n (some a)) (h2 : Nb p n (some b)) : a = b := by
  have key : ∀ x y, Nb p n (some x) → Nb p n (some y) → ¬ x < y := fun x y hx hy lt => by
    have e := (nb_prev hy (by omega)).1
    have := Cn_le' p (show x ≤ y - 1 by omega)
    have := hx.1
    omega
  have := key a b h1 h2
  have := key b a h2 h1
  omega
theorem nb_zero {p : Par} {t : Nat} (h : Nb p 0 (some t)) : t = 0 := by
  by_cases t0 : t = 0
  · exact t0
  · have := (nb_prev h t0).1
    have := Cn_pos p (t - 1)
    omega
theorem run_of_cn {p : Par} {a : Nat} : ∀ {d : Nat}, Cn p (a + d) = Cn p a → onn p (a + d) = onn p a
  | 0, _ => rfl
  | d + 1, h => by
    have m := Cn_mono p a d
    have e : Cn p (a + d + 1) = Cn p (a + d) + (if onn p (a + d + 1) = onn p (a + d) then 0 else 1) := rfl
    have h : Cn p (a + d + 1) = Cn p a := h
    have ih := run_of_cn (p := p) (a := a) (d := d) (by omega)
    show onn p (a + d + 1) = onn p a
    by_cases c : onn p (a + d + 1) = onn p (a + d)
    · rw [c, ih]
    · rw [if_neg c] at e; omega
theorem nb_nx {p : Par} {n a b : Nat} (h1 : Nb p n (some a)) (h2 : Nb p (n + 1) (some b)) : Nx p a b := by
  have e1 := h1.1
  have e2 := h2.1
  have lt : a < b := by
    rcases Nat.lt_or_ge a b with l | g
    · exact l
    · have := Cn_le' p g; omega
  obtain ⟨e3, ne⟩ := nb_prev h2 (by omega)
  have run : Run p a b := fun u h1 h2 => by
    have m1 := Cn_le' p h1
    have m2 := Cn_le' p (show u ≤ b - 1 by omega)
    have := run_of_cn (p := p) (a := a) (d := u - a) (by rw [Nat.add_sub_cancel' h1]; omega)
    rwa [Nat.add_sub_cancel' h1] at this
  refine ⟨lt, run, ?_⟩
  rw [← run (b - 1) (by omega) (by omega)]
  exact ne
theorem nb_ever {p : Par} {bs : List Nat} {k : Nat} (c : CourseX p bs (some k)) {n : Nat} (hn : bs.length ≤ n) (h : Nb p n none) : False := by
  obtain ⟨_, kl, f, l, hf, hl, st⟩ := c.rep k rfl
  obtain ⟨b, hb⟩ := at_some (bs := bs) (i := k + (n - k) % (bs.length - 1 - k)) (by have := Nat.mod_lt (n - k) (show 0 < bs.length - 1 - k by omega); omega)
  have := (nb_repX c hn hf hl hb).1
  have := h (b + (n - k) / (bs.length - 1 - k) * (l - f))
  omega
/-- the begins of a timeline whose round also is whole rounds of so many ticks -/
structure Rnd (p : Par) (bs : List Nat) (back : Option Nat) (n : Nat) (bs' : List Nat) : Prop where
  co : CourseX p bs' back
  dvd : ∀ k f l, back = some k → bs'[k]? = some f → bs'[bs'.length - 1]? = some l → n ∣ l - f
  one : n = 1 → bs' = bs
theorem rnd_none {p : Par} {bs : List Nat} {n : Nat} (c : CourseOk p bs none) : Rnd p bs none n bs := ⟨c.x, (fun _ _ _ e => nomatch e), fun _ => rfl⟩
theorem stt_more {p : Par} {f l m : Nat} (s : stt p f = stt p l) (lt : f ≤ l) : stt p f = stt p (f + m * (l - f)) := by
  have e := (per_of s lt).times (Nat.le_refl f) m
  have s1 : f % p.ch.length = l % p.ch.length := congrArg Prod.fst s
  have z := Nat.sub_mod_eq_zero_of_mod_eq s1.symm
  obtain ⟨q, hq⟩ := Nat.dvd_of_mod_eq_zero z
  have e2 : (f + m * (l - f)) % p.ch.length = f % p.ch.length := by
    rw [hq, Nat.mul_left_comm, Nat.add_mul_mod_self_left]
  have e3 : deg p (f + m * (l - f)) = deg p f := congrArg Prod.fst e
  have e4 : onn p (f + m * (l - f)) = onn p f := congrArg Prod.snd e
  unfold stt
  rw [e2, e3, e4]
theorem rnd_some {p : Par} {bs : List Nat} {k n f l : Nat} (c : CourseOk p bs (some k)) (n1 : 1 ≤ n) (n24 : n ≤ 24) (hf : bs[k]? = some f) (hl : bs[bs.length - 1]? = some l)
    {bs' : List Nat} (hlen : bs'.length = k + (bs.length - 1 - k) * (n / Nat.gcd (l - f) n) + 1) (h : ∀ i b, bs'[i]? = some b → Nb p i (some b)) : Rnd p bs (some k) n bs' := by
  obtain ⟨_, kl, f', l', hf', hl', st⟩ := c.rep k rfl
  rw [hf] at hf'; cases hf'
  rw [hl] at hl'; cases hl'
  obtain ⟨lt, pe⟩ := c.per rfl hf hl
  have g0 : 0 < Nat.gcd (l - f) n := Nat.gcd_pos_of_pos_left _ (by omega)
  have g1 := Nat.gcd_dvd_left (l - f) n
  have g2 := Nat.gcd_dvd_right (l - f) n
  have gle := Nat.le_of_dvd (by omega) g2
  have m1 : 1 ≤ n / Nat.gcd (l - f) n := Nat.div_pos gle g0
  have m24 : n / Nat.gcd (l - f) n ≤ 24 := Nat.le_trans (Nat.div_le_self _ _) n24
  have md : n ∣ n / Nat.gcd (l - f) n * (l - f) := by
    refine ⟨(l - f) / Nat.gcd (l - f) n, ?_⟩
    rw [← Nat.mul_div_assoc _ g1, Nat.mul_comm, ← Nat.mul_div_assoc _ g2, Nat.mul_comm]
  have m9 : n = 1 → n / Nat.gcd (l - f) n = 1 := fun e => by subst e; rw [Nat.gcd_one_right]
  generalize n / Nat.gcd (l - f) n = m at hlen m1 m24 md m9
  have w1 : (bs.length - 1 - k) * 1 ≤ (bs.length - 1 - k) * m := Nat.mul_le_mul_left _ m1
  have w24 : (bs.length - 1 - k) * m ≤ (bs.length - 1 - k) * 24 := Nat.mul_le_mul_left _ m24
  have l9 := c.len
  have ch : Chain p bs' := by
    obtain ⟨b0, h0⟩ := at_some (bs := bs') (i := 0) (by omega)
    have := nb_zero (h 0 b0 h0)
    subst this
    exact ⟨h0, fun i a b ha hb => nb_nx (h i a ha) (h (i + 1) b hb)⟩
  have kp : ∀ i b, bs[i]? = some b → bs'[i]? = some b := fun i b e => by
    have il := at_lt e
    obtain ⟨b', h'⟩ := at_some (bs := bs') (i := i) (by omega)
    rw [h', nb_uniq (h i b' h') (nb_kept c.chain e)]
  have hl' : bs'[bs'.length - 1]? = some (f + m * (l - f)) := by
    obtain ⟨x, hx⟩ := at_some (bs := bs') (i := bs'.length - 1) (by omega)
    rw [hx]
    have nx := h _ x hx
    have el : bs'.length - 1 = k + (bs.length - 1 - k) * m := by omega
    rw [el] at nx
    by_cases q : m = 1
    · subst q
      have e2 : k + (bs.length - 1 - k) * 1 = bs.length - 1 := by omega
      rw [e2] at nx
      rw [nb_uniq nx (nb_kept c.chain hl)]
      congr 1; omega
    · have w2 : (bs.length - 1 - k) * 2 ≤ (bs.length - 1 - k) * m := Nat.mul_le_mul_left _ (by omega)
      have ed : (k + (bs.length - 1 - k) * m - k) / (bs.length - 1 - k) = m := by
        rw [Nat.add_sub_cancel_left, Nat.mul_div_cancel_left _ (by omega)]
      have em : (k + (bs.length - 1 - k) * m - k) % (bs.length - 1 - k) = 0 := by
        rw [Nat.add_sub_cancel_left, Nat.mul_mod_right]
      have z := nb_rep c (n := k + (bs.length - 1 - k) * m) (b := f) (by omega) hf hl (by rw [em]; exact hf)
      rw [ed] at z
      rw [nb_uniq nx z]
  have hf2 := kp k f hf
  have fl := c.far _ _ hl
  have big : f + m * (l - f) ≤ 11522400000000000000 := by
    have : m * (l - f) ≤ 24 * (l - f) := Nat.mul_le_mul_right _ m24
    omega
  refine ⟨⟨c.ok, ch, by omega, fun i b e => Nat.le_trans (ch.le' (by have := at_lt e; omega) e hl') big, (fun e => nomatch e), fun k' e => ?_⟩, fun k' f' l' e hf' hl2 => ?_, fun e => ?_⟩
  · cases e
    exact ⟨trivial, by omega, f, _, hf2, hl', stt_more st (Nat.le_of_lt lt)⟩
  · cases e
    rw [hf2] at hf'; cases hf'
    rw [hl'] at hl2; cases hl2
    rw [Nat.add_sub_cancel_left]
    exact md
  · have m1' := m9 e
    subst m1'
    refine List.ext_getElem? fun i => ?_
    by_cases q : i < bs.length
    · obtain ⟨b, hb⟩ := at_some q
      rw [hb, kp i b hb]
    · rw [List.getElem?_eq_none (by omega), List.getElem?_eq_none (by omega)]
/-! ### costs -/
/-- prices, or amounts -/
structure Prs (am : List Int) : Prop where
  l1 : 1 ≤ am.length
  l24 : am.length ≤ 24
  bd : ∀ c ∈ am, 0 ≤ c ∧ c ≤ 1000000
def Ac (p : Par) (am : List Int) : Nat → Int
  | 0 => 0
  | t + 1 => Ac p am t + (if onn p t then chAt am t else 0)
theorem Ac_one (p : Par) : Ac p [1] = Hc p := by
  funext t
  induction t with
  | zero => rfl
  | succ t ih =>
    show Ac p [1] t + _ = Hc p t + _
    rw [ih]
    have : chAt [1] t = 1 := by unfold chAt; rw [show t % ([1] : List Int).length = 0 from Nat.mod_one t]; rfl
    rw [this]
theorem Prs.at {am : List Int} (h : Prs am) (t : Nat) : 0 ≤ chAt am t ∧ chAt am t ≤ 1000000 :=
  h.bd _ (getD_mem (Nat.mod_lt t (by have := h.l1; omega)))
theorem prs_one : Prs [1] := ⟨by decide, by decide, fun c hc => by obtain rfl := List.mem_singleton.mp hc; decide⟩
theorem run_cost {p : Par} {am : List Int} {b : Nat} : ∀ {e : Nat}, b ≤ e → Run p b e → Ac p am e = Ac p am b + (if onn p b then sumTo am 0 e - sumTo am 0 b else 0)
  | 0, h, r => by
    have : b = 0 := by omega
    subst this
    split <;> omega
  | e + 1, h, r => by
    by_cases c : b = e + 1
    · subst c
      split <;> omega
    · have ih := run_cost (am := am) (show b ≤ e by omega) (fun t h1 h2 => r t h1 (by omega))
      have s : Ac p am (e + 1) = Ac p am e + (if onn p e then chAt am e else 0) := rfl
      have s2 : sumTo am 0 (e + 1) = sumTo am 0 e + chAt am e + 0 := rfl
      rw [s, ih, r e (by omega) (by omega), s2]
      split <;> omega
theorem chAt_dvd {am : List Int} {T : Nat} (h : am.length ∣ T) (t : Nat) : chAt am (t + T) = chAt am t := by
  obtain ⟨q, rfl⟩ := h
  unfold chAt
  rw [Nat.add_mul_mod_self_left]
theorem Per.cost {p : Par} {am : List Int} {f T : Nat} (h : Per p f T) (d : am.length ∣ T) : ∀ j, Ac p am (f + j + T) - Ac p am (f + j) = Ac p am (f + T) - Ac p am f
  | 0 => rfl
  | j + 1 => by
    have ih := h.cost d j
    have e0 : onn p (f + j + T) = onn p (f + j) := congrArg Prod.snd (h (f + j) (by omega))
    have c1 : Ac p am (f + (j + 1) + T) = Ac p am (f + j + T) + (if onn p (f + j + T) then chAt am (f + j + T) else 0) := by
      rw [show f + (j + 1) + T = (f + j + T) + 1 by omega]; rfl
    have c2 : Ac p am (f + (j + 1)) = Ac p am (f + j) + (if onn p (f + j) then chAt am (f + j) else 0) := rfl
    rw [c1, c2, e0, chAt_dvd d]
    omega
theorem Per.costs {p : Par} {am : List Int} {f T : Nat} (h : Per p f T) (d : am.length ∣ T) {t : Nat} (ht : f ≤ t) : ∀ m : Nat, Ac p am (t + m * T) = Ac p am t + (m : Int) * (Ac p am (f + T) - Ac p am f)
  | 0 => by simp
  | m + 1 => by
    have ih := h.costs d ht m
    have e := h.cost (am := am) d (t + m * T - f)
    rw [show f + (t + m * T - f) = t + m * T by omega] at e
    rw [Nat.succ_mul, ← Nat.add_assoc]
    have : ((m + 1 : Nat) : Int) * (Ac p am (f + T) - Ac p am f) = (m : Int) * (Ac p am (f + T) - Ac p am f) + (Ac p am (f + T) - Ac p am f) := by
      rw [Int.natCast_succ, Int.add_mul, Int.one_mul]
    rw [this]
    omega
theorem Pl.cost {p : Par} {am : List Int} {bs : List Nat} {back : Option Nat} {t r i t' b : Nat} (h : CourseX p bs back) (dv : ∀ k f l, back = some k → bs[k]? = some f → bs[bs.length - 1]? = some l → am.length ∣ l - f) (q : Pl p bs back t r i t') (hb : bs[i]? = some b) :
    Ac p am t' = Ac p am b + (if onn p b then sumTo am 0 t' - sumTo am 0 b else 0) ∧ (r = 0 → t = t') ∧ ∀ k f l, back = some k → bs[k]? = some f → bs[bs.length - 1]? = some l → 0 < r → Ac p am t = Ac p am t' + (r : Int) * (Ac p am l - Ac p am f) := by
  obtain ⟨le, run⟩ := q.stayX h hb
  refine ⟨run_cost le (fun u h1 h2 => run u h1 (by omega)), q.zeroX h hb, fun k f l eb hf hl hr => ?_⟩
  obtain ⟨e1, e2, e3⟩ := q.som k f l eb hf hl
  obtain ⟨lt, pe⟩ := h.per eb hf hl
  have z := pe.costs (dv k f l eb hf hl) (e3 hr) r
  rw [show f + (l - f) = l by omega] at z
  rw [e1]; exact z
theorem Ac_mono {p : Par} {am : List Int} (h : Prs am) (a : Nat) : ∀ d, Ac p am a ≤ Ac p am (a + d) ∧ Ac p am (a + d) ≤ Ac p am a + 1000000 * (d : Int)
  | 0 => ⟨Int.le_refl _, by simp⟩
  | d + 1 => by
    have := Ac_mono (p := p) h a d
    have e : Ac p am (a + (d + 1)) = Ac p am (a + d) + (if onn p (a + d) then chAt am (a + d) else 0) := rfl
    have := h.at (a + d)
    rw [e]
    split <;> omega
theorem Ac_le {p : Par} {am : List Int} (h : Prs am) {a b : Nat} (l : a ≤ b) : Ac p am a ≤ Ac p am b := by
  have := (Ac_mono (p := p) h a (b - a)).1
  rwa [Nat.add_sub_cancel' l] at this
theorem Ac_bd {p : Par} {am : List Int} (h : Prs am) (t : Nat) : 0 ≤ Ac p am t ∧ Ac p am t ≤ 1000000 * (t : Int) := by
  have := Ac_mono (p := p) h 0 t
  rw [Nat.zero_add] at this
  have e : Ac p am 0 = 0 := rfl
  omega
/-- what share gives -/
def ShareX (p : Par) (am : List Int) (bs : List Nat) (back : Option Nat) (top bot : Nat) : Prop :=
  match back with
  | none => ∃ b, bs[bs.length - 1]? = some b ∧ ((onn p b = false ∧ top = 0 ∧ bot = 1) ∨ ∃ h : Nat, onn p b = true ∧ am.sum = (h : Int) ∧ top = h / Nat.gcd h am.length ∧ bot = am.length / Nat.gcd h am.length)
  | some k => ∃ f l h, bs[k]? = some f ∧ bs[bs.length - 1]? = some l ∧ Ac p am l - Ac p am f = (h : Nat) ∧ top = h / Nat.gcd h (l - f) ∧ bot = (l - f) / Nat.gcd h (l - f)
theorem low_ok {h d : Nat} (d0 : 0 < d) : 1 ≤ d / Nat.gcd h d ∧ Nat.gcd (h / Nat.gcd h d) (d / Nat.gcd h d) = 1 := by
  have g0 : 0 < Nat.gcd h d := Nat.gcd_pos_of_pos_right _ d0
  have g2 := Nat.gcd_dvd_right h d
  exact ⟨Nat.div_pos (Nat.le_of_dvd d0 g2) g0, by rw [Nat.gcd_div (Nat.gcd_dvd_left h d) g2, Nat.div_self g0]⟩
theorem low_mul {h d : Nat} : h * (d / Nat.gcd h d) = h / Nat.gcd h d * d := by
  have g1 := Nat.gcd_dvd_left h d
  have g2 := Nat.gcd_dvd_right h d
  rw [← Nat.mul_div_assoc _ g2, Nat.mul_comm (h / _), ← Nat.mul_div_assoc _ g1, Nat.mul_comm]
theorem ShareX.ok {p : Par} {am : List Int} {bs : List Nat} {back : Option Nat} {top bot : Nat} (pr : Prs am) (c : CourseX p bs back) (s : ShareX p am bs back top bot) : 1 ≤ bot ∧ Nat.gcd top bot = 1 := by
  cases back with
  | none =>
    obtain ⟨b, hb, ⟨_, rfl, rfl⟩ | ⟨h, _, _, rfl, rfl⟩⟩ := s
    · decide
    · exact low_ok pr.l1
  | some k =>
    obtain ⟨f, l, h, hf, hl, hh, rfl, rfl⟩ := s
    obtain ⟨lt, _⟩ := c.per rfl hf hl
    exact low_ok (by omega)
theorem nev_cost {p : Par} {am : List Int} {b : Nat} (n : Nev p b) (d : Nat) : Ac p am (b + d) = Ac p am b + (if onn p b then sumTo am 0 (b + d) - sumTo am 0 b else 0) :=
  run_cost (e := b + d) (by omega) (fun t h1 _ => n t h1)
theorem onn_per {p : Par} {f T : Nat} (h : Per p f T) {b : Nat} (n : Nev p b) (T1 : 1 ≤ T) {t : Nat} (ht : f ≤ t) : onn p t = onn p b := by
  have e := h.times ht b
  have e2 : onn p (t + b * T) = onn p t := congrArg Prod.snd e
  have : b * 1 ≤ b * T := Nat.mul_le_mul_left _ T1
  rw [← e2]
  exact n _ (by omega)
theorem sumTo_dvd {am : List Int} (h : 1 ≤ am.length) (t q : Nat) : sumTo am 0 (t + am.length * q) = sumTo am 0 t + (q : Int) * am.sum := by
  have := sumTo_rounds (ch := am) (gg := 0) h t q
  rw [Nat.mul_comm am.length q, this]
  unfold rsum
  simp
/-- the cost of a repetition that fits the amounts is the share -/
theorem ShareX.grow {p : Par} {am : List Int} {bs : List Nat} {back : Option Nat} {f T top bot : Nat} (pr : Prs am) (c : CourseX p bs back) (dv : ∀ k f l, back = some k → bs[k]? = some f → bs[bs.length - 1]? = some l → am.length ∣ l - f)
    (pe : Per p f T) (d : am.length ∣ T) (T1 : 1 ≤ T) (s : ShareX p am bs back top bot) : (Ac p am (f + T) - Ac p am f) * (bot : Int) = (top : Int) * (T : Int) := by
  cases back with
  | none =>
    obtain ⟨b, hb, s⟩ := s
    obtain ⟨_, b', hb', nv⟩ := c.fin rfl
    rw [hb] at hb'; cases hb'
    have run : Run p f (f + T) := fun u h1 h2 => (onn_per pe nv T1 h1).trans (onn_per pe nv T1 (Nat.le_refl f)).symm
    have e := run_cost (am := am) (show f ≤ f + T by omega) run
    rw [onn_per pe nv T1 (Nat.le_refl f)] at e
    rcases s with ⟨o, rfl, rfl⟩ | ⟨h, o, hs, rfl, rfl⟩
    · rw [o] at e
      rw [e]
      simp
    · rw [o] at e
      obtain ⟨q, rfl⟩ := d
      rw [e, sumTo_dvd pr.l1, hs]
      have z := low_mul (h := h) (d := am.length)
      have z2 : q * (h * (am.length / Nat.gcd h am.length)) = q * (h / Nat.gcd h am.length * am.length) := congrArg (q * ·) z
      have z3 := congrArg (fun n : Nat => (n : Int)) z2
      simp only [Int.natCast_mul] at z3
      rw [if_pos rfl]
      have e1 : Ac p am f + (sumTo am 0 f + (q : Int) * (h : Int) - sumTo am 0 f) - Ac p am f = (q : Int) * (h : Int) := by omega
      rw [e1, Int.mul_assoc, z3, Int.natCast_mul, Int.mul_left_comm]
      congr 1
      rw [Int.mul_comm (am.length : Int)]
  | some k =>
    obtain ⟨f2, l2, h2, hf2, hl2, hh, rfl, rfl⟩ := s
    obtain ⟨lt, pe'⟩ := c.per rfl hf2 hl2
    have d' := dv k f2 l2 rfl hf2 hl2
    -- both periods, one behind the other
    have mx : ∀ x, f ≤ x → f2 ≤ x → (T : Int) * (Ac p am l2 - Ac p am f2) = ((l2 - f2 : Nat) : Int) * (Ac p am (f + T) - Ac p am f) := fun x h1 h2 => by
      have a1 := pe.costs d h1 (l2 - f2)
      have a2 := pe'.costs d' h2 T
      rw [Nat.add_sub_cancel' (Nat.le_of_lt lt)] at a2
      rw [Nat.mul_comm T] at a2
      omega
    have e := mx (f + f2) (by omega) (by omega)
    rw [hh] at e
    have z := low_mul (h := h2) (d := l2 - f2)
    have g0 : 0 < Nat.gcd h2 (l2 - f2) := Nat.gcd_pos_of_pos_right _ (by omega)
    generalize hX : Ac p am (f + T) - Ac p am f = X at e
    -- X * d = T * h, so X * (d / g) = T * (h / g)
    have g1 := Nat.gcd_dvd_left h2 (l2 - f2)
    have g2 := Nat.gcd_dvd_right h2 (l2 - f2)
    generalize Nat.gcd h2 (l2 - f2) = g at *
    obtain ⟨u, hu⟩ := g1
    obtain ⟨v, hv⟩ := g2
    rw [hv, hu, Nat.mul_div_cancel_left _ g0, Nat.mul_div_cancel_left _ g0]
    rw [hv, hu, Int.natCast_mul, Int.natCast_mul] at e
    have gi : (g : Int) ≠ 0 := by omega
    refine Int.eq_of_mul_eq_mul_left gi ?_
    have e3 : (g : Int) * (X * (v : Int)) = (g : Int) * (v : Int) * X := by rw [Int.mul_comm X, Int.mul_assoc]
    have e4 : (g : Int) * ((u : Int) * (T : Int)) = (T : Int) * ((g : Int) * (u : Int)) := by rw [← Int.mul_assoc, Int.mul_comm]
    rw [e3, e4, e]
theorem Ac_seven (p : Par) : ∀ n, Ac p [7] n = 7 * Hc p n
  | 0 => rfl
  | n + 1 => by
    show Ac p [7] n + _ = 7 * (Hc p n + _)
    rw [Ac_seven p n]
    have : chAt [7] n = 7 := by unfold chAt; rw [show n % ([7] : List Int).length = 0 from Nat.mod_one n]; rfl
    rw [this]
    split <;> omega
theorem ShareX.le {p : Par} {am : List Int} {bs : List Nat} {back : Option Nat} {top bot : Nat} (pr : Prs am) (c : CourseX p bs back) (s : ShareX p am bs back top bot) : bot ≤ 11522400000000000000 := by
  cases back with
  | none =>
    obtain ⟨b, hb, ⟨_, rfl, rfl⟩ | ⟨h, _, _, rfl, rfl⟩⟩ := s
    · decide
    · have := Nat.div_le_self am.length (Nat.gcd h am.length)
      have := pr.l24
      omega
  | some k =>
    obtain ⟨f, l, h, hf, hl, hh, rfl, rfl⟩ := s
    have := Nat.div_le_self (l - f) (Nat.gcd h (l - f))
    have := c.far _ _ hl
    omega
theorem Per.twelve {p : Par} {f T : Nat} (h : Per p f T) (m : Nat) : Per p f (m * T) := fun t ht => h.times ht m
theorem dvd12 {n : Nat} (h1 : 1 ≤ n) (h4 : n ≤ 4) (T : Nat) : n ∣ 12 * T := by
  have : n ∣ 12 := by
    have h : ∀ m : Fin 5, 1 ≤ m.val → m.val ∣ 12 := by decide
    exact h ⟨n, by omega⟩ h1
  exact Nat.dvd_trans this (Nat.dvd_mul_right 12 T)
end Th

namespace W6
open PySem PySem.Spec PyProof.Rows L2 Ru StX
theorem atI_neg {α : Type} {xs : List α} {d : Nat} {v : α} (h : xs[xs.length - d]? = some v) (h1 : 1 ≤ d) (h2 : d ≤ xs.length) : atI xs (-(d : Int)) = some v := by
  unfold atI
  have e : ixN xs.length (-(d : Int)) = some (xs.length - d) := by
    unfold ixN
    rw [if_neg (by omega), if_pos (by omega)]
    congr 1
    omega
  rw [e]
  exact h
theorem sts_at {a : Ad} {H : Hp} {p : Th.Par} {qs : List Addr} {bs : List Nat} (h : qs.length = bs.length ∧ ∀ (i : Nat) (q : Addr) (b : Nat), qs[i]? = some q → bs[i]? = some b → SAt a H q p.ch p.g (Th.onn p b) b (Th.baB p b)) {i b : Nat} (hb : bs[i]? = some b) :
    ∃ q, (qs.map V.ref)[i]? = some (.ref q) ∧ SAt a H q p.ch p.g (Th.onn p b) b (Th.baB p b) := by
  have l := Th.at_lt hb
  obtain ⟨q, hq⟩ := (⟨qs[i]'(by omega), by simp [show i < qs.length by omega]⟩ : ∃ q, qs[i]? = some q)
  exact ⟨q, by rw [List.getElem?_map, hq]; rfl, h.2 i q b hq hb⟩
theorem sts_last {a : Ad} {H : Hp} {p : Th.Par} {qs : List Addr} {bs : List Nat} (h : qs.length = bs.length ∧ ∀ (i : Nat) (q : Addr) (b : Nat), qs[i]? = some q → bs[i]? = some b → SAt a H q p.ch p.g (Th.onn p b) b (Th.baB p b)) (ne : 0 < bs.length) {b : Nat} (hb : bs[bs.length - 1]? = some b) :
    ∃ q, atI (qs.map V.ref) (-(((1 : Nat)) : Int)) = some (.ref q) ∧ SAt a H q p.ch p.g (Th.onn p b) b (Th.baB p b) := by
  obtain ⟨q, h1, h2⟩ := sts_at h hb
  refine ⟨q, atI_neg ?_ (Nat.le_refl _) (by rw [List.length_map, h.1]; exact ne), h2⟩
  rw [List.length_map, h.1]
  exact h1
/-- the begins as values -/
abbrev bgs (bs : List Nat) : List V := bs.map fun (b : Nat) => V.int (b : Int)
theorem bg {bs : List Nat} {i b : Nat} (h : bs[i]? = some b) : (bgs bs)[i]? = some (.int b) := by
  show (bs.map fun (b : Nat) => V.int (b : Int))[i]? = _
  rw [List.getElem?_map, h]; rfl
theorem bg_last {bs : List Nat} {l : Nat} (ne : 0 < bs.length) (h : bs[bs.length - 1]? = some l) : atI (bgs bs) ((bs.length : Int) - 1) = some (.int l) := by
  rw [show ((bs.length : Int) - 1) = ((bs.length - 1 : Nat) : Int) by omega]
  exact atI_nat (bg h)
/-- amounts of ticks -/
def AM (cs : List Int) : Prop := 1 ≤ cs.length ∧ cs.length ≤ 24 ∧ ∀ c ∈ cs, -1000000 ≤ c ∧ c ≤ 1000000
theorem sum_bd6 : ∀ {cs : List Int}, (∀ c ∈ cs, -1000000 ≤ c ∧ c ≤ 1000000) → -(1000000 * (cs.length : Int)) ≤ cs.sum ∧ cs.sum ≤ 1000000 * (cs.length : Int)
  | [], _ => by simp
  | c :: r, h => by
    have h1 := h c List.mem_cons_self
    have h2 := sum_bd6 (cs := r) (fun x hx => h x (List.mem_cons_of_mem _ hx))
    simp only [List.sum_cons, List.length_cons]
    omega
theorem sumTo_one : ∀ n : Nat, Th.sumTo [1] 0 n = (n : Int)
  | 0 => rfl
  | n + 1 => by
    have e : Th.sumTo [1] 0 (n + 1) = Th.sumTo [1] 0 n + Th.chAt [1] n + 0 := rfl
    have c : Th.chAt [1] n = 1 := by unfold Th.chAt; rw [show n % ([1] : List Int).length = 0 from Nat.mod_one n]; rfl
    rw [e, sumTo_one n, c]; omega
section
variable (a : Ad)
def spSof : Sp := fun vs H Q _ => ∃ (t : Addr) (cs : List Int) (n : Nat), vs = [.ref t, .int n] ∧ H t = some (.tup (cs.map V.int)) ∧ AM cs ∧ ∀ H', Same H H' → Q (.int (Th.sumTo cs 0 n)) H'
def spLt : Sp := fun vs H Q _ => ∃ (n d : Nat), vs = [.int n, .int d] ∧ 0 < d ∧ d ≤ 18446744073709551615 ∧ ∀ z H', Same H H' → H z = none → H' z = some (.tup [.int ((n / Nat.gcd n d : Nat) : Int), .int ((d / Nat.gcd n d : Nat) : Int)]) → Q (.ref z) H'
def spTor : Sp := fun vs H Q _ => ∃ (z : Addr) (bs : List Nat) (k f l : Nat), vs = [.ref z] ∧ TAt a H z bs (some k) ∧ bs[k]? = some f ∧ bs[bs.length - 1]? = some l ∧ Q (.int ((l : Int) - (f : Int))) H
def spTb : Sp := fun vs H Q _ => ∃ (z : Addr) (p : Th.Par) (bs : List Nat) (back : Option Nat) (n : Nat), vs = [.ref z, .int n] ∧ TAt a H z bs back ∧ Th.CourseX p bs back ∧ n ≤ 1000000000000000001 ∧ (∀ b, bs[n]? = some b → Q (.int b) H) ∧ (bs.length ≤ n → ∀ r H', Same H H' → Th.Nb p n r → Q (optV r) H')
def spNa : Sp := fun vs H Q _ => ∃ (z : Addr) (p : Th.Par) (bs : List Nat) (back : Option Nat) (t : Nat), vs = [.ref z, .int t] ∧ TAt a H z bs back ∧ Th.Chain p bs ∧ bs.length ≤ 240000 ∧ ∀ (i b : Nat), bs[i]? = some b → b ≤ t → (∀ e, bs[i + 1]? = some e → t < e) → Q (.int i) H
def spPlace : Sp := fun vs H Q _ => ∃ (z : Addr) (p : Th.Par) (bs : List Nat) (back : Option Nat) (t : Nat), vs = [.ref z, .int t] ∧ TAt a H z bs back ∧ Th.CourseX p bs back ∧ t ≤ 1000000000000000000 ∧
  ∀ z H' (r i t' : Nat), Same H H' → H z = none → H' z = some (.tup [.int r, .int i, .int t']) → Th.Pl p bs back t r i t' → r ≤ t → Q (.ref z) H'
def spTbu : Sp := fun vs H Q _ => ∃ (z : Addr) (p : Th.Par) (bs : List Nat) (back : Option Nat) (t : Nat), vs = [.ref z, .int t] ∧ TAt a H z bs back ∧ Th.CourseOk p bs back ∧ t ≤ 1000000000000000000 ∧ ∀ H', Same H H' → Q (.int (Th.Cn p t : Nat)) H'
end
section
variable {P : Program} {w : World} {K : PySem.W.Frag} {mg : Str → Option Value} {base : Heap} {a : Ad}
theorem ok_sum_of_first (T : Txt K mg a) : FnOk P w K mg base CX0 1 a.f_sum_of_first a.d_sum_of_first ["values", "count"] spSof := by
  refine T.F_sum_of_first.ok sc_sum_of_first (fun vs H Q E h => ?_) (fun cdv A outer s H vs Q E hr h => ?_)
  · obtain ⟨t, cs, n, rfl, _⟩ := h
    rfl
  · obtain ⟨t, cs, n, rfl, ht, ⟨c1, c2, c3⟩, k⟩ := h
    refine ⟨_, (pss_cons (ps_asg (pe_callB call_divmod (by rfl) T.z_divmod (by decide +kernel) (pa_cons (pv 1) (pa_cons (pe_callB call_len_seq (by rfl) T.z_len PySem.boot_len (pa_cons (pv 0) pa_nil)) pa_nil))) (pg_tup rfl (pgs_cons (pg_name (i := 2) sc_sum_of_first.nd rfl (Or.inl rfl)) (pgs_cons (pg_name (i := 3) sc_sum_of_first.nd rfl (Or.inl rfl)) pgs_nil))))
      (pss_one (ps_ret (pe_op op_add (pe_op op_mul (pv 2) (pe_callB (cr_sumT rfl) (by rfl) T.z_sum (by decide +kernel) (pa_cons (pv 0) pa_nil))) (pe_callB (show CallR _ (.builtin "sum") (rSumT K) from cr_sumT rfl) (by rfl) T.z_sum (by decide +kernel) (pa_cons (pe_slice (show SlR _ (rSlA K) from sl_tupA) (pv 0) po_none (po_some (pv 3))) pa_nil)))))), ?_⟩
    have sb := sum_bd6 c3
    have ln : (cs.map V.int).length = cs.length := List.length_map _
    refine ⟨_, rfl, _, rfl, t, _, rfl, .inr (SqT.of ht), _, _, rfl, ⟨show (0 : Int) < (((cs.map V.int).length : Nat) : Int) by rw [ln]; omega, show (((cs.map V.int).length : Nat) : Int) < 1073741824 by rw [ln]; omega⟩, fun p hp => ?_⟩
    rw [ln]
    have em : (n : Int) % ((cs.length : Nat) : Int) = ((n % cs.length : Nat) : Int) := rfl
    have ml := Nat.mod_lt n (show 0 < cs.length by omega)
    have sm := same_upd (o := .tup [.int ((n : Int) / (cs.length : Int)), .int ((n : Int) % (cs.length : Int))]) hp
    have ht2 := sm _ _ ht
    refine ⟨p, _, rfl, SqT.of upd_same, rfl, _, _, rfl, _, _, rfl, rfl, ?_⟩
    refine ⟨_, rfl, _, rfl, t, cs, rfl, SqT.of ht2, _, _, rfl, rfl, .inr ⟨by omega, by omega⟩, _, rfl, _, rfl, ((n % cs.length : Nat) : Int), rfl, t, _, rfl, SqT.of ht2, fun q => ?_, fun _ q hq => ?_⟩
    · rw [HT.sIx_nat, ln] at q
      omega
    · refine ⟨q, cs.take (n % cs.length), rfl, SqT.of (by rw [upd_same, cut_pre (by omega)]), _, _, rfl, rfl, ?_⟩
      have e : Th.sumTo cs 0 n = (n : Int) / ((cs.length : Nat) : Int) * cs.sum + (cs.take (n % cs.length)).sum := by
        rw [Th.sumTo_eq c1 n]
        unfold Th.rsum Th.pre
        rw [Int.zero_mul, Int.add_zero, Int.zero_mul, Int.add_zero]; rfl
      have kk := k _ (sm.trans (same_upd (o := .tup (cutV (cs.map V.int) none (some ((n % cs.length : Nat) : Int)))) hq))
      rw [e] at kk
      exact kk
theorem ok_lowest_terms (T : Txt K mg a) : FnOk P w K mg base CX0 1 a.f_lowest_terms a.d_lowest_terms ["numerator", "denominator"] spLt := by
  refine T.F_lowest_terms.ok sc_lowest_terms (fun vs H Q E h => ?_) (fun cdv A outer s H vs Q E hr h => ?_)
  · obtain ⟨n, d, rfl, _⟩ := h
    rfl
  · obtain ⟨n, d, rfl, d0, d18, k⟩ := h
    refine ⟨_, (pss_cons (ps_set (i := 2) sc_lowest_terms.nd rfl (Or.inl rfl) (pe_callBfun cr_gcd (by rfl) T.mg_gcd (pa_cons (pv 0) (pa_cons (pv 1) pa_nil))))
      (pss_one (ps_ret (pe_tup (pa_cons (pe_op op_fdivW (pv 0) (pv 2)) (pa_cons (pe_op op_fdivW (pv 1) (pv 2)) pa_nil)))))), ?_⟩
    refine ⟨_, rfl, _, rfl, _, _, rfl, ?_⟩
    have eg : ((n : Int)).natAbs.gcd ((d : Int)).natAbs = Nat.gcd n d := rfl
    have g0 : 0 < Nat.gcd n d := Nat.gcd_pos_of_pos_right _ d0
    have g9 : Nat.gcd n d ≤ d := Nat.le_of_dvd d0 (Nat.gcd_dvd_right n d)
    have cd : CDivW (0 : Int) (((((n : Int)).natAbs.gcd ((d : Int)).natAbs : Nat) : Int)) := by
      rw [eg]
      refine wide_div (by omega) (b := 64) ?_ (by omega) (by omega)
      have : (2 : Nat) ^ 64 = 18446744073709551616 := by decide
      rw [this]; omega
    refine ⟨_, rfl, _, rfl, _, _, rfl, rfl, cd, _, rfl, _, rfl, _, _, rfl, rfl, cd, by show 2 ≤ sizeLine; decide, fun y ny => ?_⟩
    refine k y _ (same_upd ny) ny ?_
    rw [upd_same, eg]
    rfl
theorem ok_Timeline_ticks_of_round (T : Txt K mg a) : FnOk P w K mg base CX0 1 a.f_Timeline_ticks_of_round a.d_Timeline_ticks_of_round ["self"] (spTor a) := by
  refine T.F_Timeline_ticks_of_round.ok sc_Timeline_ticks_of_round (fun vs H Q E h => ?_) (fun cdv A outer s H vs Q E hr h => ?_)
  · obtain ⟨z, bs, k, f, l, rfl, _⟩ := h
    rfl
  · obtain ⟨z, bs, kb, f, l, rfl, ⟨dx, lb, hz, hlb⟩, hf, hl, k⟩ := h
    refine ⟨_, (pss_one (ps_ret (pe_op op_sub (pe_ix ix_list (pe_fld (pv 0) rfl) (pe_fld (pv 0) rfl) (fun _ _ => rfl)) (pe_ix ix_list (pe_fld (pv 0) rfl) (pe_fld (pv 0) rfl) (fun _ _ => rfl))))), ?_⟩
    have ne : 0 < bs.length := by have := Th.at_lt hl; omega
    exact ⟨_, rfl, z, _, dx, _, _, rfl, hz, T.cl_Timeline, T.na_Timeline__begins, rfl, _, rfl, z, _, dx, _, _, rfl, hz, T.cl_Timeline, T.na_Timeline_last, rfl, lb, _, _, _, rfl, rfl, SqL.of hlb, bg_last ne hl, _, rfl, z, _, dx, _, _, rfl, hz, T.cl_Timeline, T.na_Timeline__begins, rfl, _, rfl, z, _, dx, _, _, rfl, hz, T.cl_Timeline, T.na_Timeline_back, rfl, lb, _, _, _, rfl, rfl, SqL.of hlb, atI_nat (bg hf), _, _, rfl, rfl, k⟩
theorem ok_Timeline_begin_of (T : Txt K mg a) : FnOk P w K mg base CX0 2 a.f_Timeline_begin_of a.d_Timeline_begin_of ["self", "number"] (spTb a) := by
  have G_Timeline_ticks_of_round : FnOk P w K mg base CX0 1 a.f_Timeline_ticks_of_round a.d_Timeline_ticks_of_round ["self"] (spTor a) := ok_Timeline_ticks_of_round T
  refine T.F_Timeline_begin_of.ok sc_Timeline_begin_of (fun vs H Q E h => ?_) (fun cdv A outer s H vs Q E hr h => ?_)
  · obtain ⟨z, p, bs, back, n, rfl, _⟩ := h
    rfl
  · obtain ⟨z, p, bs, back, n, rfl, ta, co, n18, k1, k2⟩ := h
    refine ⟨_, (pss_cons (ps_if (pt_cmpR op_le (pv 1) (pe_fld (pv 0) rfl) (nomark _)) (pss_one (ps_ret (pe_ix ix_list (pe_fld (pv 0) rfl) (pv 1) (fun _ _ => rfl)))) pss_nil)
      (pss_cons (ps_if (pt_cmpR op_isN (pe_fld (pv 0) rfl) pe_non (nomark _)) (pss_one (ps_ret pe_non)) pss_nil)
      (pss_cons (ps_asg (pe_callB call_divmodW (by rfl) T.z_divmod (by decide +kernel) (pa_cons (pe_op op_sub (pv 1) (pe_fld (pv 0) rfl)) (pa_cons (pe_op op_sub (pe_fld (pv 0) rfl) (pe_fld (pv 0) rfl)) pa_nil))) (pg_tup rfl (pgs_cons (pg_name (i := 2) sc_Timeline_begin_of.nd rfl (Or.inl rfl)) (pgs_cons (pg_name (i := 3) sc_Timeline_begin_of.nd rfl (Or.inl rfl)) pgs_nil))))
      (pss_one (ps_ret (pe_op op_add (pe_ix ix_list (pe_fld (pv 0) rfl) (pe_op op_add (pe_fld (pv 0) rfl) (pv 3)) (fun _ _ => rfl)) (pe_op op_mul (pv 2) (pe_meth0 (pv 0) T.cl_Timeline T.me_Timeline_ticks_of_round G_Timeline_ticks_of_round (hr.mono (by decide)) (b_Timeline_ticks_of_round T) .nil pass0)))))))), ?_⟩
    obtain ⟨dx, lb, hz, hlb⟩ := id ta
    have ne := co.chain.ne
    have l9 := co.len
    have el : ((bs.length : Int) - 1) = ((bs.length - 1 : Nat) : Int) := by omega
    refine ⟨_, rfl, _, rfl, z, _, dx, _, _, rfl, hz, T.cl_Timeline, T.na_Timeline_last, rfl, _, _, rfl, rfl, _, rfl, ?_⟩
    by_cases nl : n < bs.length
    · refine ifT (dT (by omega)) ?_
      obtain ⟨b, hb⟩ := Th.at_some nl
      exact ⟨_, rfl, z, _, dx, _, _, rfl, hz, T.cl_Timeline, T.na_Timeline__begins, rfl, _, rfl, lb, _, _, _, rfl, rfl, SqL.of hlb, atI_nat (bg hb), k1 b hb⟩
    · have k := k2 (Nat.le_of_not_lt nl)
      refine ifF (dF (by omega)) ?_
      cases back with
      | none =>
        refine ⟨_, rfl, z, _, dx, _, _, rfl, hz, T.cl_Timeline, T.na_Timeline_back, rfl, rfl, _, rfl, ?_⟩
        refine ifT rfl ?_
        exact k none H (fun _ _ h => h) (Th.nb_noneX co (by omega))
      | some kb =>
        obtain ⟨_, kl, f, l, hf, hl, stt⟩ := co.rep kb rfl
        obtain ⟨lt, pe⟩ := co.per rfl hf hl
        have ml := Nat.mod_lt (n - kb) (show 0 < bs.length - 1 - kb by omega)
        obtain ⟨b, hb⟩ := Th.at_some (bs := bs) (i := kb + (n - kb) % (bs.length - 1 - kb)) (by omega)
        have nb := Th.nb_repX co (Nat.le_of_not_lt nl) hf hl hb
        have b61 : ((n : Int) - (kb : Int)).natAbs < 2 ^ 61 := by
          have : (2 : Nat) ^ 61 = 2305843009213693952 := by decide
          rw [this]; omega
        refine ⟨_, rfl, z, _, dx, _, _, rfl, hz, T.cl_Timeline, T.na_Timeline_back, rfl, rfl, _, rfl, ?_⟩
        refine ifF rfl ?_
        refine ⟨_, rfl, _, rfl, z, _, dx, _, _, rfl, hz, T.cl_Timeline, T.na_Timeline_back, rfl, _, _, rfl, rfl, _, rfl, z, _, dx, _, _, rfl, hz, T.cl_Timeline, T.na_Timeline_last, rfl, _, rfl, z, _, dx, _, _, rfl, hz, T.cl_Timeline, T.na_Timeline_back, rfl, _, _, rfl, rfl, _, _, rfl, divp_ok (by omega) (Nat.le_trans (PyProof.Rows.intBits_le b61) (by omega)), fun z1 nz1 => ?_⟩
        have er : ((n : Int) - (kb : Int)) / ((bs.length : Int) - 1 - (kb : Int)) = (((n - kb) / (bs.length - 1 - kb) : Nat) : Int) := by
          rw [el, show (n : Int) - (kb : Int) = ((n - kb : Nat) : Int) by omega, show ((bs.length - 1 : Nat) : Int) - (kb : Int) = ((bs.length - 1 - kb : Nat) : Int) by omega]; rfl
        have em : (kb : Int) + ((n : Int) - (kb : Int)) % ((bs.length : Int) - 1 - (kb : Int)) = ((kb + (n - kb) % (bs.length - 1 - kb) : Nat) : Int) := by
          rw [el, show (n : Int) - (kb : Int) = ((n - kb : Nat) : Int) by omega, show ((bs.length - 1 : Nat) : Int) - (kb : Int) = ((bs.length - 1 - kb : Nat) : Int) by omega]; rfl
        have dl := Nat.div_le_self (n - kb) (bs.length - 1 - kb)
        have fl := co.far _ _ hl
        generalize (n - kb) / (bs.length - 1 - kb) = r at *
        generalize kb + (n - kb) % (bs.length - 1 - kb) = m at *
        have sm1 := same_upd (o := .tup [.int (((n : Int) - (kb : Int)) / ((bs.length : Int) - 1 - (kb : Int))), .int (((n : Int) - (kb : Int)) % ((bs.length : Int) - 1 - (kb : Int)))]) nz1
        refine ⟨z1, _, rfl, SqT.of upd_same, rfl, _, _, rfl, _, _, rfl, rfl, ?_⟩
        refine ⟨_, rfl, z, _, dx, _, _, rfl, (sm1 _ _ hz), T.cl_Timeline, T.na_Timeline__begins, rfl, _, rfl, z, _, dx, _, _, rfl, (sm1 _ _ hz), T.cl_Timeline, T.na_Timeline_back, rfl, _, rfl, _, _, rfl, rfl, lb, _, _, _, rfl, rfl, SqL.of (sm1 _ _ hlb), by rw [em]; exact atI_nat (bg hb), _, rfl, _, rfl, z, dx, _, rfl, sm1 _ _ hz, rfl, z, bs, kb, f, l, rfl, ta.same sm1, hf, hl, ?_⟩
        refine ⟨_, _, rfl, rfl, .inr ⟨by omega, by omega⟩, _, _, rfl, rfl, ?_⟩
        have e : Q (V.int ((b + r * (l - f) : Nat) : Int)) _ := k (some (b + r * (l - f))) _ sm1 nb
        have e2 : ((b + r * (l - f) : Nat) : Int) = (b : Int) + ((n : Int) - (kb : Int)) / ((bs.length : Int) - 1 - (kb : Int)) * ((l : Int) - (f : Int)) := by
          rw [er, Int.natCast_add, Int.natCast_mul, show ((l - f : Nat) : Int) = (l : Int) - (f : Int) by omega]
        rw [e2] at e
        exact e
theorem ok_Timeline_number_at (T : Txt K mg a) : FnOk P w K mg base CX0 1 a.f_Timeline_number_at a.d_Timeline_number_at ["self", "tick"] (spNa a) := by
  refine T.F_Timeline_number_at.ok sc_Timeline_number_at (fun vs H Q E h => ?_) (fun cdv A outer s H vs Q E hr h => ?_)
  · obtain ⟨z, p, bs, back, t, rfl, _⟩ := h
    rfl
  · obtain ⟨z, p, bs, back, t, rfl, ⟨dx, lb, hz, hlb⟩, ch, l9, k⟩ := h
    refine ⟨_, (pss_cons (ps_par (i := 2) (j := 3) (by rfl) sc_Timeline_number_at.nd rfl rfl (by decide) rfl rfl (pa_cons pe_int (pa_cons (pe_fld (pv 0) rfl) pa_nil)) (by rfl))
      (pss_cons (ps_while PassesOwn.never (pt_cmpR op_lt (pv 2) (pv 3) (nomark _))
        (pss_cons (ps_set (i := 4) sc_Timeline_number_at.nd rfl (Or.inl rfl) (pe_op op_fdiv (pe_op op_add (pe_op op_add (pv 2) (pv 3)) pe_int) pe_int))
      (pss_one (ps_if (pt_cmpR op_le (pe_ix ix_list (pe_fld (pv 0) rfl) (pv 4) (fun _ _ => rfl)) (pv 1) (nomark _)) (pss_one (ps_set (i := 2) sc_Timeline_number_at.nd rfl (Or.inl rfl) (pv 4))) (pss_one (ps_set (i := 3) sc_Timeline_number_at.nd rfl (Or.inl rfl) (pe_op op_sub (pv 4) pe_int)))))))
      (pss_one (ps_ret (pv 2))))), ?_⟩
    have ne := ch.ne
    refine ⟨_, rfl, z, _, dx, _, _, rfl, hz, T.cl_Timeline, T.na_Timeline_last, rfl, _, _, rfl, ?_⟩
    refine ⟨fun m σ H' => H' = H ∧ ∃ (lo hi : Nat) (u : Option V), m = hi - lo ∧ lo ≤ hi ∧ hi < bs.length ∧ σ = [some (.ref z), some (.int t), some (.int lo), some (.int hi), u] ∧ (∃ b, bs[lo]? = some b ∧ b ≤ t) ∧ ∀ e, bs[hi + 1]? = some e → t < e, ?_, ?_⟩
    · refine ⟨_, rfl, 0, bs.length - 1, none, rfl, Nat.zero_le _, by omega, ?_, ⟨0, ch.1, Nat.zero_le _⟩, fun e he => ?_⟩
      · have e1 : ((bs.length : Int) - 1) = ((bs.length - 1 : Nat) : Int) := by omega
        rw [← e1]; rfl
      · have := Th.at_lt he
        omega
    · rintro m σ H' ⟨eH, lo, hi, u, rfl, lh', hl, rfl, ⟨b, hb, le⟩, up⟩
      obtain rfl := eH.symm
      refine ⟨_, rfl, _, rfl, _, _, rfl, rfl, _, rfl, ?_⟩
      by_cases c1 : lo < hi
      · refine ifT (dT (by omega)) ?_
        refine ⟨fun σ' H' => ∃ m', m' < hi - lo ∧ (H' = H ∧ ∃ (lo hi : Nat) (u : Option V), m' = hi - lo ∧ lo ≤ hi ∧ hi < bs.length ∧ σ' = [some (.ref z), some (.int t), some (.int lo), some (.int hi), u] ∧ (∃ b, bs[lo]? = some b ∧ b ≤ t) ∧ ∀ e, bs[hi + 1]? = some e → t < e), fun _ _ h => h, ?_⟩
        refine ⟨_, rfl, _, rfl, _, _, rfl, rfl, _, _, rfl, rfl, _, _, rfl, rfl, ⟨by decide, by decide⟩, ?_⟩
        have em : ((lo : Int) + (hi : Int) + 1) / 2 = (((lo + hi + 1) / 2 : Nat) : Int) := by omega
        generalize hm : (lo + hi + 1) / 2 = mid at em
        obtain ⟨e, he⟩ := Th.at_some (bs := bs) (i := mid) (by omega)
        refine ⟨_, rfl, z, _, dx, _, _, rfl, hz, T.cl_Timeline, T.na_Timeline__begins, rfl, _, rfl, lb, _, _, _, rfl, rfl, SqL.of hlb, by rw [em]; exact atI_nat (bg he), _, rfl, _, _, rfl, rfl, _, rfl, ?_⟩
        by_cases c2 : e ≤ t
        · refine ifT (dT (by omega)) ⟨_, rfl, ?_⟩
          exact ⟨hi - mid, by omega, rfl, mid, hi, some (.int (((lo : Int) + (hi : Int) + 1) / 2)), rfl, by omega, hl, by rw [← em]; rfl, ⟨e, he, c2⟩, up⟩
        · refine ifF (dF (by omega)) ⟨_, rfl, _, _, rfl, rfl, ?_⟩
          refine ⟨mid - 1 - lo, by omega, rfl, lo, mid - 1, some (.int (((lo : Int) + (hi : Int) + 1) / 2)), rfl, by omega, by omega, ?_, ⟨b, hb, le⟩, fun e' he' => ?_⟩
          · rw [show ((mid - 1 : Nat) : Int) = (mid : Int) - 1 by omega, ← em]; rfl
          · rw [show mid - 1 + 1 = mid by omega, he] at he'
            cases he'
            omega
      · refine ifF (dF (by omega)) ?_
        have e1 : lo = hi := by omega
        subst e1
        exact ⟨_, rfl, k lo b hb le up⟩
theorem ok_Timeline_place (T : Txt K mg a) : FnOk P w K mg base CX0 2 a.f_Timeline_place a.d_Timeline_place ["self", "tick"] (spPlace a) := by
  have G_Timeline_ticks_of_round : FnOk P w K mg base CX0 1 a.f_Timeline_ticks_of_round a.d_Timeline_ticks_of_round ["self"] (spTor a) := ok_Timeline_ticks_of_round T
  have G_Timeline_number_at : FnOk P w K mg base CX0 1 a.f_Timeline_number_at a.d_Timeline_number_at ["self", "tick"] (spNa a) := ok_Timeline_number_at T
  refine T.F_Timeline_place.ok sc_Timeline_place (fun vs H Q E h => ?_) (fun cdv A outer s H vs Q E hr h => ?_)
  · obtain ⟨z, p, bs, back, t, rfl, _⟩ := h
    rfl
  · obtain ⟨z, p, bs, back, t, rfl, ta, co, t18, k⟩ := h
    refine ⟨_, (pss_cons (ps_set (i := 2) sc_Timeline_place.nd rfl (Or.inl rfl) pe_int)
      (pss_cons (ps_if (PW.pt (pw_and (pt_cmpR op_notN (pe_fld (pv 0) rfl) pe_non (nomark _)) (pw_and1 (pt_cmpR op_ge (pv 1) (pe_ix ix_list (pe_fld (pv 0) rfl) (pe_fld (pv 0) rfl) (fun _ _ => rfl)) (nomark _))))) (pss_cons (ps_set (i := 3) sc_Timeline_place.nd rfl (Or.inl rfl) (pe_ix ix_list (pe_fld (pv 0) rfl) (pe_fld (pv 0) rfl) (fun _ _ => rfl)))
      (pss_cons (ps_asg (pe_callB call_divmodW (by rfl) T.z_divmod (by decide +kernel) (pa_cons (pe_op op_sub (pv 1) (pv 3)) (pa_cons (pe_meth0 (pv 0) T.cl_Timeline T.me_Timeline_ticks_of_round G_Timeline_ticks_of_round (hr.mono (by decide)) (b_Timeline_ticks_of_round T) .nil pass0) pa_nil))) (pg_tup rfl (pgs_cons (pg_name (i := 2) sc_Timeline_place.nd rfl (Or.inl rfl)) (pgs_cons (pg_name (i := 4) sc_Timeline_place.nd rfl (Or.inl rfl)) pgs_nil))))
      (pss_one (ps_set (i := 1) sc_Timeline_place.nd rfl (Or.inl rfl) (pe_op op_add (pv 3) (pv 4)))))) pss_nil)
      (pss_one (ps_ret (pe_tup (pa_cons (pv 2) (pa_cons (pe_meth (pv 0) T.cl_Timeline T.me_Timeline_number_at G_Timeline_number_at (hr.mono (by decide)) (b_Timeline_number_at T) .nil pass0 (pa_cons (pv 1) pa_nil)) (pa_cons (pv 1) pa_nil)))))))), ?_⟩
    obtain ⟨dx, lb, hz, hlb⟩ := id ta
    have ne := co.chain.ne
    cases back with
    | none =>
      refine ⟨_, rfl, z, _, dx, _, _, rfl, hz, T.cl_Timeline, T.na_Timeline_back, rfl, rfl, _, rfl, ?_⟩
      refine ifF rfl ?_
      refine ifF rfl ?_
      refine ⟨_, rfl, _, rfl, z, dx, _, rfl, hz, rfl, _, rfl, z, p, bs, none, t, rfl, ta, co.chain, co.len, fun i b hb le nx => ?_⟩
      refine ⟨_, rfl, by show 3 ≤ sizeLine; decide, fun z nz => ?_⟩
      exact k z _ 0 i t (same_upd nz) nz upd_same ⟨⟨b, hb, le, nx⟩, fun _ => ⟨rfl, rfl⟩, fun _ _ _ e => nomatch e⟩ (Nat.zero_le _)
    | some kb =>
      obtain ⟨_, kl, f, l, hf, hl, stt⟩ := co.rep kb rfl
      obtain ⟨lt, pe⟩ := co.per rfl hf hl
      refine ⟨_, rfl, z, _, dx, _, _, rfl, hz, T.cl_Timeline, T.na_Timeline_back, rfl, rfl, _, rfl, ?_⟩
      refine ifT rfl ?_
      refine ⟨_, rfl, _, rfl, z, _, dx, _, _, rfl, hz, T.cl_Timeline, T.na_Timeline__begins, rfl, _, rfl, z, _, dx, _, _, rfl, hz, T.cl_Timeline, T.na_Timeline_last, rfl, lb, _, _, _, rfl, rfl, SqL.of hlb, bg_last ne hl, _, _, rfl, rfl, _, rfl, ?_⟩
      by_cases c1 : l ≤ t
      · refine ifT (dT (by omega)) ?_
        refine ⟨_, rfl, z, _, dx, _, _, rfl, hz, T.cl_Timeline, T.na_Timeline__begins, rfl, _, rfl, z, _, dx, _, _, rfl, hz, T.cl_Timeline, T.na_Timeline_back, rfl, lb, _, _, _, rfl, rfl, SqL.of hlb, atI_nat (bg hf), ?_⟩
        have b61 : ((t : Int) - (f : Int)).natAbs < 2 ^ 61 := by
          have : (2 : Nat) ^ 61 = 2305843009213693952 := by decide
          rw [this]; omega
        refine ⟨_, rfl, _, rfl, _, _, rfl, rfl, _, rfl, z, dx, _, rfl, hz, rfl, z, bs, kb, f, l, rfl, ta, hf, hl, _, _, rfl, divp_ok (by omega) (Nat.le_trans (PyProof.Rows.intBits_le b61) (by omega)), fun z1 nz1 => ?_⟩
        have er : ((t : Int) - (f : Int)) / ((l : Int) - (f : Int)) = (((t - f) / (l - f) : Nat) : Int) := by
          rw [show (t : Int) - (f : Int) = ((t - f : Nat) : Int) by omega, show (l : Int) - (f : Int) = ((l - f : Nat) : Int) by omega]; rfl
        have em : (f : Int) + ((t : Int) - (f : Int)) % ((l : Int) - (f : Int)) = ((f + (t - f) % (l - f) : Nat) : Int) := by
          rw [show (t : Int) - (f : Int) = ((t - f : Nat) : Int) by omega, show (l : Int) - (f : Int) = ((l - f : Nat) : Int) by omega]; rfl
        have dm := Nat.div_add_mod (t - f) (l - f)
        have ml := Nat.mod_lt (t - f) (show 0 < l - f by omega)
        have dl := Nat.div_le_self (t - f) (l - f)
        generalize (t - f) / (l - f) = r at *
        generalize (t - f) % (l - f) = m at *
        have sm1 := same_upd (o := .tup [.int (((t : Int) - (f : Int)) / ((l : Int) - (f : Int))), .int (((t : Int) - (f : Int)) % ((l : Int) - (f : Int)))]) nz1
        refine ⟨z1, _, rfl, SqT.of upd_same, rfl, _, _, rfl, _, _, rfl, rfl, ?_⟩
        refine ⟨_, rfl, _, rfl, _, _, rfl, rfl, ?_⟩
        refine ⟨_, rfl, _, rfl, z, dx, _, rfl, sm1 _ _ hz, rfl, _, rfl, z, p, bs, some kb, f + m, by rw [← em]; rfl, ta.same sm1, co.chain, co.len, fun i b hb le nx => ?_⟩
        refine ⟨_, rfl, by show 3 ≤ sizeLine; decide, fun z nz => ?_⟩
        refine k z _ r i (f + m) (sm1.trans (same_upd nz)) (sm1.free nz) (by rw [upd_same, ← er, ← em]) ⟨⟨b, hb, le, nx⟩, fun e => (nomatch e), fun k' f' l' e hf' hl' => ?_⟩ (by omega)
        cases e
        rw [hl] at hl'; cases hl'
        rw [hf] at hf'; cases hf'
        rw [Nat.mul_comm] at dm
        exact ⟨by omega, by omega, fun _ => by omega⟩
      · refine ifF (dF (by omega)) ?_
        refine ⟨_, rfl, _, rfl, z, dx, _, rfl, hz, rfl, _, rfl, z, p, bs, some kb, t, rfl, ta, co.chain, co.len, fun i b hb le nx => ?_⟩
        refine ⟨_, rfl, by show 3 ≤ sizeLine; decide, fun z nz => ?_⟩
        exact k z _ 0 i t (same_upd nz) nz upd_same ⟨⟨b, hb, le, nx⟩, fun e => (nomatch e), fun k' f' l' e hf' hl' => by
          cases e
          rw [hl] at hl'; cases hl'
          exact ⟨by simp, by omega, fun h => absurd h (Nat.lt_irrefl _)⟩⟩ (Nat.zero_le _)
end
end W6

namespace W6
open PySem PySem.Spec PyProof.Rows L2 Ru StX
/-- an object whose first field is known -/
def Rm (k0 : Str) (H : Hp) (x : Addr) : Prop := ∃ C dx v r, H x = some (.ins C dx ((k0, v) :: r))
theorem Rm.ne {k0 : Str} {H : Hp} {x z C dx : Addr} {k : Str} {v : V} {r : List (Str × V)} (h : Rm k0 H x) (e : H z = some (.ins C dx ((k, v) :: r))) (n : (k == k0) = false) : z ≠ x := by
  obtain ⟨C', dx', v', r', h⟩ := h
  refine ne_of e h fun q => ?_
  injection q with _ _ q
  injection q with q _
  injection q with q _
  rw [q, beq_self_eq_true] at n
  cases n
theorem Rm.nl {k0 : Str} {H : Hp} {x z : Addr} {xs : List V} (h : Rm k0 H x) (e : H z = some (.lst xs)) : z ≠ x := by
  obtain ⟨C', dx', v', r', h⟩ := h
  exact ne_of e h (fun z => nomatch z)
theorem Rm.nt {k0 : Str} {H : Hp} {x z : Addr} {xs : List V} (h : Rm k0 H x) (e : H z = some (.tup xs)) : z ≠ x := by
  obtain ⟨C', dx', v', r', h⟩ := h
  exact ne_of e h (fun z => nomatch z)
section
variable {a : Ad} {k0 : Str} {H H' : Hp} {x z : Addr}
theorem DAt.fr1 {cs : List Int} {g : Int} (h : DAt a H z cs g) (f : Fr1 x H H') (m : Rm k0 H x) (n1 : (("round_ticks" : Str) == k0) = false) : DAt a H' z cs g := by
  obtain ⟨q, dx, l, h1, h2⟩ := h
  exact ⟨q, dx, l, f _ _ (m.ne h1 n1) h1, f _ _ (m.nl h2) h2⟩
theorem DDs.fr1 {cs : List Int} {g : Int} (h : DDs a H z cs g) (f : Fr1 x H H') (m : Rm k0 H x) (n1 : (("round_ticks" : Str) == k0) = false) : DDs a H' z cs g := by
  obtain ⟨d0, d1, h1, h2, h3⟩ := h
  exact ⟨d0, d1, f _ _ (m.nt h1) h1, h2.fr1 f m n1, h3.fr1 f m n1⟩
theorem SAt.fr1 {cs : List Int} {g base : Int} {on : Bool} {b : Nat} (h : SAt a H z cs g on b base) (f : Fr1 x H H') (m : Rm k0 H x) (n1 : (("round_ticks" : Str) == k0) = false) (n2 : (("on" : Str) == k0) = false) : SAt a H' z cs g on b base := by
  obtain ⟨dx, td, d, h1, h2, h3⟩ := h
  exact ⟨dx, td, d, f _ _ (m.ne h1 n2) h1, h2.fr1 f m n1, h3.fr1 f m n1⟩
theorem TAt.fr1 {bs : List Nat} {back : Option Nat} (h : TAt a H z bs back) (f : Fr1 x H H') (m : Rm k0 H x) (n1 : (("back" : Str) == k0) = false) : TAt a H' z bs back := by
  obtain ⟨dx, lb, h1, h2⟩ := h
  exact ⟨dx, lb, f _ _ (m.ne h1 n1) h1, f _ _ (m.nl h2) h2⟩
theorem YAt.fr1 {p : Th.Par} {bs : List Nat} {back : Option Nat} (h : YAt a H z p bs back) (f : Fr1 x H H') (m : Rm k0 H x) (n1 : (("back" : Str) == k0) = false) (n2 : (("_on" : Str) == k0) = false) : YAt a H' z p bs back := by
  obtain ⟨dx, am, tl, ls, h1, h2, h3, h4⟩ := h
  exact ⟨dx, am, tl, ls, f _ _ (m.ne h1 n2) h1, f _ _ (m.nt h2) h2, h3.fr1 f m n1, f _ _ (m.nl h4) h4⟩
end
/-- the sums over amounts of ticks -/
def YAtX (a : Ad) (H : Hp) (z : Addr) (p : Th.Par) (am : List Int) (bs : List Nat) (back : Option Nat) : Prop := ∃ dx ad tl ls, H z = some (.ins a.c_HeatingSum dx [("_on", .bl (Th.onn p 0)), ("_amounts", .ref ad), ("_timeline", .ref tl), ("_sums", .ref ls)]) ∧ H ad = some (.tup (am.map V.int)) ∧ TAt a H tl bs back ∧ H ls = some (.lst (bs.map fun b => V.int (Th.Ac p am b)))
theorem YAtX.same {a : Ad} {H H' : Hp} {z : Addr} {p : Th.Par} {am : List Int} {bs : List Nat} {back : Option Nat} (h : YAtX a H z p am bs back) (s : Same H H') : YAtX a H' z p am bs back := let ⟨dx, ad, tl, ls, h1, h2, h3, h4⟩ := h; ⟨dx, ad, tl, ls, s _ _ h1, s _ _ h2, h3.same s, s _ _ h4⟩
theorem YAtX.one {a : Ad} {H : Hp} {z : Addr} {p : Th.Par} {bs : List Nat} {back : Option Nat} (h : YAtX a H z p [1] bs back) : YAt a H z p bs back := by
  obtain ⟨dx, ad, tl, ls, h1, h2, h3, h4⟩ := h
  rw [Th.Ac_one] at h4
  exact ⟨dx, ad, tl, ls, h1, h2, h3, h4⟩
theorem YAt.x {a : Ad} {H : Hp} {z : Addr} {p : Th.Par} {bs : List Nat} {back : Option Nat} (h : YAt a H z p bs back) : YAtX a H z p [1] bs back := by
  obtain ⟨dx, ad, tl, ls, h1, h2, h3, h4⟩ := h
  rw [← Th.Ac_one] at h4
  exact ⟨dx, ad, tl, ls, h1, h2, h3, h4⟩
/-- the amounts fit the rounds -/
def DvX (am : List Int) (bs : List Nat) (back : Option Nat) : Prop := ∀ k f l, back = some k → bs[k]? = some f → bs[bs.length - 1]? = some l → am.length ∣ l - f
theorem dv_one {bs : List Nat} {back : Option Nat} : DvX [1] bs back := fun k f l _ _ _ => Nat.one_dvd _
theorem am_prs {am : List Int} (h : Th.Prs am) : AM am := ⟨h.l1, h.l24, fun c hc => by have := h.bd c hc; omega⟩
/-- whether a stretch is one with heating -/
def par (o : Bool) (i : Nat) : Bool := decide (o = decide (i % 2 = 0))
theorem chain_par {p : Th.Par} {bs : List Nat} (h : Th.Chain p bs) : ∀ {i b : Nat}, bs[i]? = some b → Th.onn p b = par (Th.onn p 0) i
  | 0, b, e => by
    rw [h.1] at e; cases e
    unfold par
    cases Th.onn p 0 <;> rfl
  | i + 1, b, e => by
    obtain ⟨a, ha⟩ := Th.at_some (bs := bs) (i := i) (by have := Th.at_lt e; omega)
    have n := (h.2 i a b ha e).2.2
    have ih := chain_par h ha
    rw [ih] at n
    unfold par at n ⊢
    have c : decide ((i + 1) % 2 = 0) = !decide (i % 2 = 0) := by
      by_cases q : i % 2 = 0
      · rw [decide_eq_true q, decide_eq_false (by omega)]; rfl
      · rw [decide_eq_false q, decide_eq_true (by omega)]; rfl
    rw [c]
    generalize decide (i % 2 = 0) = y at *
    generalize Th.onn p 0 = o at *
    generalize Th.onn p b = u at *
    cases y <;> cases o <;> cases u <;> simp at n ⊢
theorem take_at {bs : List Nat} {i b : Nat} (h : bs[i]? = some b) : bs.take (i + 1) = bs.take i ++ [b] := by
  rw [List.take_succ, h]; rfl
section
variable (a : Ad)
def spTi : Sp := fun vs H Q _ => ∃ (x dx lb : Addr) (bs : List Nat) (back : Option Nat), vs = [.ref x, .ref lb, bkV back] ∧ H x = some (.ins a.c_Timeline dx []) ∧ H lb = some (.lst (bgs bs)) ∧ ∀ H', Fr1 x H H' → TAt a H' x bs back → Q .non H'
def spIr : Sp := fun vs H Q _ => ∃ (z : Addr) (p : Th.Par) (bs : List Nat) (back : Option Nat) (n : Nat), vs = [.ref z, .int n] ∧ TAt a H z bs back ∧ Th.CourseOk p bs back ∧ 1 ≤ n ∧ n ≤ 24 ∧ ∀ y bs' H', Same H H' → TAt a H' y bs' back → Th.Rnd p bs back n bs' → Q (.ref y) H'
def spIso : Sp := fun vs H Q _ => ∃ (x dx : Addr) (fs : List (Str × V)) (o : Bool) (i : Nat), vs = [.ref x, .int i] ∧ H x = some (.ins a.c_HeatingSum dx fs) ∧ fs.lookup ("_on" : Str) = some (.bl o) ∧ Q (.bl (par o i)) H
def spSwn : Sp := fun vs H Q _ => ∃ (x dx ad tl : Addr) (fs : List (Str × V)) (p : Th.Par) (am : List Int) (bs : List Nat) (back : Option Nat) (i b e : Nat), vs = [.ref x, .int i, .int e] ∧ H x = some (.ins a.c_HeatingSum dx fs) ∧ fs.lookup ("_on" : Str) = some (.bl (Th.onn p 0)) ∧ fs.lookup ("_amounts" : Str) = some (.ref ad) ∧ fs.lookup ("_timeline" : Str) = some (.ref tl) ∧ fs.lookup ("_is_on" : Str) = none ∧
  H ad = some (.tup (am.map V.int)) ∧ Th.Prs am ∧ TAt a H tl bs back ∧ Th.CourseX p bs back ∧ bs[i]? = some b ∧ ∀ H', Same H H' → Q (.int (if Th.onn p b then Th.sumTo am 0 e - Th.sumTo am 0 b else 0)) H'
def spYi : Sp := fun vs H Q _ => ∃ (x dx tl ad : Addr) (p : Th.Par) (am : List Int) (bs : List Nat) (back : Option Nat), vs = [.ref x, .ref tl, .bl (Th.onn p 0), .ref ad] ∧ H x = some (.ins a.c_HeatingSum dx []) ∧ TAt a H tl bs back ∧ Th.CourseOk p bs back ∧ Th.Prs am ∧ H ad = some (.tup (am.map V.int)) ∧ ∀ bs' H', Fr1 x H H' → YAtX a H' x p am bs' back → Th.Rnd p bs back am.length bs' → Q .non H'
def spYb : Sp := fun vs H Q _ => ∃ (x : Addr) (p : Th.Par) (bs : List Nat) (back : Option Nat) (t : Nat), vs = [.ref x, .int t] ∧ YAt a H x p bs back ∧ Th.CourseOk p bs back ∧ t ≤ 1000000000000000000 ∧ ∀ H', Same H H' → Q (.int (Th.Hc p t)) H'
def spYbX : Sp := fun vs H Q _ => ∃ (x : Addr) (p : Th.Par) (am : List Int) (bs : List Nat) (back : Option Nat) (t : Nat), vs = [.ref x, .int t] ∧ YAtX a H x p am bs back ∧ Th.Prs am ∧ DvX am bs back ∧ Th.CourseX p bs back ∧ t ≤ 1000000000000000000 ∧ ∀ H', Same H H' → Q (.int (Th.Ac p am t)) H'
def spYr : Sp := fun vs H Q _ => ∃ (x : Addr) (p : Th.Par) (am : List Int) (bs : List Nat) (k f l : Nat), vs = [.ref x] ∧ YAtX a H x p am bs (some k) ∧ bs[k]? = some f ∧ bs[bs.length - 1]? = some l ∧ Q (.int (Th.Ac p am l - Th.Ac p am f)) H
def spYs : Sp := fun vs H Q _ => ∃ (x : Addr) (p : Th.Par) (bs : List Nat) (back : Option Nat), vs = [.ref x] ∧ YAt a H x p bs back ∧ Th.CourseOk p bs back ∧ ∀ z H' (t b : Nat), Same H H' → H z = none → H' z = some (.tup [.int t, .int b]) → Th.Share p bs back t b → Q (.ref z) H'
def spYsX : Sp := fun vs H Q _ => ∃ (x : Addr) (p : Th.Par) (am : List Int) (bs : List Nat) (back : Option Nat), vs = [.ref x] ∧ YAtX a H x p am bs back ∧ Th.Prs am ∧ Th.CourseX p bs back ∧ ∀ z H' (t b : Nat), Same H H' → H z = none → H' z = some (.tup [.int t, .int b]) → Th.ShareX p am bs back t b → Q (.ref z) H'
end
section
variable {P : Program} {w : World} {K : PySem.W.Frag} {mg : Str → Option Value} {base : Heap} {a : Ad}
theorem ok_Timeline_init (T : Txt K mg a) : FnOk P w K mg base CX0 1 a.f_Timeline_init a.d_Timeline_init ["self", "begins", "back"] (spTi a) := by
  refine T.F_Timeline_init.ok sc_Timeline_init (fun vs H Q E h => ?_) (fun cdv A outer s H vs Q E hr h => ?_)
  · obtain ⟨x, dx, lb, bs, back, rfl, _⟩ := h
    rfl
  · obtain ⟨x, dx, lb, bs, back, rfl, hx, hlb, k⟩ := h
    refine ⟨_, (pss_cons (ps_fld (pv 0) (pv 2) rfl)
      (pss_cons (ps_fld (pv 0) (pe_op op_sub (pe_callB call_len_seq (by rfl) T.z_len PySem.boot_len (pa_cons (pv 1) pa_nil)) pe_int) rfl)
      (pss_one (ps_fld (pv 0) (pv 1) rfl)))), ?_⟩
    have nlx : lb ≠ x := ne_of hlb hx (fun z => nomatch z)
    refine ⟨_, rfl, _, rfl, x, _, dx, _, rfl, hx, T.cl_Timeline, T.na_Timeline_back, by show 0 < 1000; decide, ?_⟩
    refine ⟨_, rfl, lb, _, rfl, .inl (SqL.of ((upd_ne nlx).trans hlb)), _, _, rfl, rfl, _, rfl, x, _, dx, _, rfl, upd_same, T.cl_Timeline, T.na_Timeline_last, by show 1 < 1000; decide, ?_⟩
    refine ⟨_, rfl, _, rfl, x, _, dx, _, rfl, upd_same, T.cl_Timeline, T.na_Timeline__begins, by show 2 < 1000; decide, ?_⟩
    refine k _ ((Fr1.upd.trans Fr1.upd).trans Fr1.upd) ⟨dx, lb, ?_, ?_⟩
    · rw [upd_same, List.length_map]; rfl
    · rw [upd_ne nlx, upd_ne nlx, upd_ne nlx]; exact hlb
theorem ok_Timeline_in_rounds_of (T : Txt K mg a) : FnOk P w K mg base CX0 3 a.f_Timeline_in_rounds_of a.d_Timeline_in_rounds_of ["self", "ticks"] (spIr a) := by
  have G_Timeline_ticks_of_round : FnOk P w K mg base CX0 1 a.f_Timeline_ticks_of_round a.d_Timeline_ticks_of_round ["self"] (spTor a) := ok_Timeline_ticks_of_round T
  have G_Timeline_begin_of : FnOk P w K mg base CX0 2 a.f_Timeline_begin_of a.d_Timeline_begin_of ["self", "number"] (spTb a) := ok_Timeline_begin_of T
  have G_Timeline_init : FnOk P w K mg base CX0 1 a.f_Timeline_init a.d_Timeline_init ["self", "begins", "back"] (spTi a) := ok_Timeline_init T
  refine T.F_Timeline_in_rounds_of.ok sc_Timeline_in_rounds_of (fun vs H Q E h => ?_) (fun cdv A outer s H vs Q E hr h => ?_)
  · obtain ⟨z, p, bs, back, n, rfl, _⟩ := h
    rfl
  · obtain ⟨z, p, bs, back, n, rfl, ta, co, n1, n24, k⟩ := h
    refine ⟨_, (pss_cons (ps_if (pt_cmpR op_isN (pe_fld (pv 0) rfl) pe_non (nomark _)) (pss_one (ps_ret (pv 0))) pss_nil)
      (pss_cons (ps_set (i := 2) sc_Timeline_in_rounds_of.nd rfl (Or.inl rfl) (pe_op op_fdivW (pv 1) (pe_callBfun cr_gcd (by rfl) T.mg_gcd (pa_cons (pe_meth0 (pv 0) T.cl_Timeline T.me_Timeline_ticks_of_round G_Timeline_ticks_of_round (hr.mono (by decide)) (b_Timeline_ticks_of_round T) .nil pass0) (pa_cons (pv 1) pa_nil)))))
      (pss_cons (ps_set (i := 3) sc_Timeline_in_rounds_of.nd rfl (Or.inl rfl) (pe_op op_add (pe_fld (pv 0) rfl) (pe_op op_mul (pe_op op_sub (pe_fld (pv 0) rfl) (pe_fld (pv 0) rfl)) (pv 2))))
      (pss_one (ps_ret (pe_make T.mk_Timeline G_Timeline_init (hr.mono (by decide)) (by rfl) T.mg_Timeline (b_Timeline_init T) .nil pass0 (pa_cons (pe_lc (own := [("number", 4)]) (g := gName 4) rfl sc_Timeline_in_rounds_of.nd (pi_range1 (by rfl) T.z_range (pa_cons (pe_op op_add (pv 3) pe_int) pa_nil)) (blkOk_by (own := [("number", 4)]) (N := ["self", "ticks", "times", "last", "number"]) (sc := (defScope s_Timeline_in_rounds_of)) (by decide +kernel)) (fun _ _ _ _ _ => pg_name (i := 4) sc_Timeline_in_rounds_of.nd rfl (Or.inl rfl)) (fun _ _ _ _ _ => pts_nil) (fun _ _ _ _ _ => (pe_meth (pv 0) T.cl_Timeline T.me_Timeline_begin_of G_Timeline_begin_of (hr.mono (by decide)) (b_Timeline_begin_of T) .nil pass0 (pa_cons (pv 4) pa_nil)))) (pa_cons (pe_fld (pv 0) rfl) pa_nil)))))))), ?_⟩
    obtain ⟨dx, lb, hz, hlb⟩ := id ta
    have ne := co.chain.ne
    have l9 := co.len
    cases back with
    | none =>
      refine ⟨_, rfl, z, _, dx, _, _, rfl, hz, T.cl_Timeline, T.na_Timeline_back, rfl, rfl, _, rfl, ?_⟩
      refine ifT rfl ?_
      exact ⟨_, rfl, k z bs H (fun _ _ h => h) ta (Th.rnd_none co)⟩
    | some kb =>
      obtain ⟨_, kl, f, l, hf, hl, stt⟩ := co.rep kb rfl
      obtain ⟨lt, pe⟩ := co.per rfl hf hl
      refine ⟨_, rfl, z, _, dx, _, _, rfl, hz, T.cl_Timeline, T.na_Timeline_back, rfl, rfl, _, rfl, ?_⟩
      refine ifF rfl ?_
      have eg : (((l : Int) - (f : Int)).natAbs.gcd ((n : Int)).natAbs) = Nat.gcd (l - f) n := by
        rw [show (l : Int) - (f : Int) = ((l - f : Nat) : Int) by omega]; rfl
      have g0 : 0 < Nat.gcd (l - f) n := Nat.gcd_pos_of_pos_left _ (by omega)
      have gle := Nat.le_of_dvd (by omega) (Nat.gcd_dvd_right (l - f) n)
      have m1 : 1 ≤ n / Nat.gcd (l - f) n := Nat.div_pos gle g0
      have m24 : n / Nat.gcd (l - f) n ≤ 24 := Nat.le_trans (Nat.div_le_self _ _) n24
      refine ⟨_, rfl, _, rfl, z, dx, _, rfl, hz, rfl, z, bs, kb, f, l, rfl, ta, hf, hl, _, rfl, _, _, rfl, ?_⟩
      rw [eg]
      have em : (n : Int) / ((Nat.gcd (l - f) n : Nat) : Int) = ((n / Nat.gcd (l - f) n : Nat) : Int) := rfl
      have fin := @Th.rnd_some p bs kb n f l co n1 n24 hf hl
      generalize hm : n / Nat.gcd (l - f) n = m at em m1 m24 fin
      have cd : CDivW (n : Int) ((Nat.gcd (l - f) n : Nat) : Int) := by
        refine wide_div (by omega) (b := 5) ?_ (by omega) (by omega)
        have : (2 : Nat) ^ 5 = 32 := by decide
        rw [this]; omega
      refine ⟨_, _, rfl, rfl, cd, ?_⟩
      have w24 : (bs.length - 1 - kb) * m ≤ (bs.length - 1 - kb) * 24 := Nat.mul_le_mul_left _ m24
      refine ⟨_, rfl, z, _, dx, _, _, rfl, hz, T.cl_Timeline, T.na_Timeline_back, rfl, _, rfl, z, _, dx, _, _, rfl, hz, T.cl_Timeline, T.na_Timeline_last, rfl, _, rfl, z, _, dx, _, _, rfl, hz, T.cl_Timeline, T.na_Timeline_back, rfl, _, _, rfl, rfl, _, rfl, _, _, rfl, rfl, .inl ⟨by omega, by omega⟩, _, _, rfl, rfl, ?_⟩
      have el : (kb : Int) + ((bs.length : Int) - 1 - (kb : Int)) * ((n : Int) / ((Nat.gcd (l - f) n : Nat) : Int)) + 1 = ((kb + (bs.length - 1 - kb) * m + 1 : Nat) : Int) := by
        rw [em, show (bs.length : Int) - 1 - (kb : Int) = ((bs.length - 1 - kb : Nat) : Int) by omega, ← Int.natCast_mul]; omega
      have lL : kb + (bs.length - 1 - kb) * m + 1 ≤ 240000 := by omega
      generalize kb + (bs.length - 1 - kb) * m + 1 = L at el lL fin
      refine ⟨_, rfl, _, _, rfl, rfl, ((L : Nat) : Int), congrArg (fun y => [V.int y]) el, by omega, by omega, fun D hD => lc_range (lo := 0) (n := L) (fun i H' => Fr1 D H H' ∧ ∃ bs', bs'.length = i ∧ (∀ j b, bs'[j]? = some b → Th.Nb p j (some b)) ∧ H' D = some (.lst (bgs bs'))) ⟨Fr1.upd, [], rfl, (fun j b e => by cases e), by rw [upd_same]; rfl⟩ ?_ ?_⟩
      · rintro i H' hi ⟨fr, bs', lb', nb', hD'⟩
        have sH : Same H H' := fun b o e => fr b o (ne_of_none e hD) e
        have step : ∀ (b : Nat) (H2 : Hp), Same H' H2 → Th.Nb p i (some b) → ∃ acc, H2 D = some (HO.lst acc) ∧ acc.length < sizeLine ∧ Fr1 D H (upd H2 D (HO.lst (acc ++ [.int (b : Int)]))) ∧ ∃ bs', bs'.length = i + 1 ∧ (∀ (j b : Nat), bs'[j]? = some b → Th.Nb p j (some b)) ∧ upd H2 D (HO.lst (acc ++ [.int (b : Int)])) D = some (HO.lst (bgs bs')) := fun b H2 s2 nb => by
          refine ⟨_, s2 _ _ hD', by rw [List.length_map]; show _ < 16777216; omega, fun c o hc e => by rw [upd_ne hc]; exact s2 _ _ (fr c o hc e), bs' ++ [b], by rw [List.length_append, lb']; rfl, fun j c e => ?_, ?_⟩
          · by_cases q : j < i
            · rw [List.getElem?_append_left (by omega)] at e
              exact nb' j c e
            · rw [List.getElem?_append_right (by omega)] at e
              have jl := Th.at_lt e
              have : j = i := by have : j - bs'.length < 1 := jl; omega
              subst this
              rw [lb', Nat.sub_self] at e
              cases e
              exact nb
          · rw [upd_same]
            show _ = some (HO.lst ((bs' ++ [b]).map fun (b : Nat) => V.int (b : Int)))
            rw [List.map_append]; rfl
        refine ⟨rfl, ?_⟩
        refine ⟨_, rfl, z, dx, _, rfl, sH _ _ hz, rfl, _, rfl, z, p, bs, some kb, i, congrArg (fun y => [V.ref z, V.int y]) (Int.zero_add _), ta.same sH, co, by omega, fun b hb => ?_, fun q r H2 s2 nb => ?_⟩
        · exact step b H' (Same.refl _) (Th.nb_kept co.chain hb)
        · cases r with
          | none => exact absurd nb (fun z => Th.nb_ever co.x q z)
          | some b => exact step b H2 s2 nb
      · rintro H1 ⟨fr, bs', lb', nb', hD1⟩
        have sH : Same H H1 := fun b o e => fr b o (ne_of_none e hD) e
        refine ⟨_, rfl, z, _, dx, _, _, rfl, (sH _ _ hz), T.cl_Timeline, T.na_Timeline_back, rfl, fun y dy ny nd ne2 => ?_⟩
        have s2 := same_made (x := y) (dx := dy) (C := a.c_Timeline) ny nd
        exact ⟨y, dy, D, bs', some kb, rfl, upd_same, s2 _ _ hD1, fun H2 fr2 ta2 => ⟨rfl, k y bs' H2 (sH.trans (Fr1.made ny nd fr2)) ta2 (fin lb' nb')⟩⟩
end
end W6

namespace W6
open PySem PySem.Spec PyProof.Rows L2 Ru StX
section
variable {P : Program} {w : World} {K : PySem.W.Frag} {mg : Str → Option Value} {base : Heap} {a : Ad}
theorem sum_nn : ∀ {cs : List Int}, (∀ c ∈ cs, 0 ≤ c ∧ c ≤ 1000000) → 0 ≤ cs.sum ∧ cs.sum ≤ 1000000 * (cs.length : Int)
  | [], _ => by simp
  | c :: r, h => by
    have h1 := h c List.mem_cons_self
    have h2 := sum_nn (cs := r) (fun x hx => h x (List.mem_cons_of_mem _ hx))
    simp only [List.sum_cons, List.length_cons]
    omega
theorem share_one {p : Th.Par} {bs : List Nat} {back : Option Nat} {t b : Nat} (co : Th.CourseOk p bs back) (h : Th.ShareX p [1] bs back t b) : Th.Share p bs back t b := by
  cases back with
  | none =>
    obtain ⟨c, hb, ⟨o, rfl, rfl⟩ | ⟨h, o, e, rfl, rfl⟩⟩ := h
    · exact ⟨c, hb, rfl, by rw [o]; rfl⟩
    · have e2 : h = 1 := by have e' : (1 : Int) = (h : Int) := e; omega
      subst e2
      exact ⟨c, hb, rfl, by rw [o]; rfl⟩
  | some k =>
    obtain ⟨f, l, h, hf, hl, e, rfl, rfl⟩ := h
    rw [Th.Ac_one] at e
    obtain ⟨lt, _⟩ := co.per rfl hf hl
    have := Th.Hc_mono p f (l - f)
    rw [Nat.add_sub_cancel' (Nat.le_of_lt lt)] at this
    exact ⟨f, l, h, hf, hl, e, by omega, rfl, rfl⟩
theorem ok_HeatingSum_is_on (T : Txt K mg a) : FnOk P w K mg base CX0 1 a.f_HeatingSum_is_on a.d_HeatingSum_is_on ["self", "number"] (spIso a) := by
  refine T.F_HeatingSum_is_on.ok sc_HeatingSum_is_on (fun vs H Q E h => ?_) (fun cdv A outer s H vs Q E hr h => ?_)
  · obtain ⟨x, dx, fs, o, i, rfl, _⟩ := h
    rfl
  · obtain ⟨x, dx, fs, o, i, rfl, hx, ho, k⟩ := h
    refine ⟨_, (pss_one (ps_ret (pe_cmpR op_eq (pe_fld (pv 0) rfl) (pe_cmpR op_eq (pe_op op_mod (pv 1) pe_int) pe_int (nomark _)) (nomark _)))), ?_⟩
    refine ⟨_, rfl, x, _, dx, _, _, rfl, hx, T.cl_HeatingSum, T.na_HeatingSum__on, ho, _, rfl, _, _, rfl, rfl, by show (0 : Int) < 2; decide, rfl, rfl, ?_⟩
    have e : decide (V.bl o = V.bl (decide (V.int ((i : Int) % 2) = V.int 0))) = par o i := by
      unfold par
      have c : decide (V.int ((i : Int) % 2) = V.int 0) = decide (i % 2 = 0) := by
        by_cases q : i % 2 = 0
        · rw [decide_eq_true q, decide_eq_true (by congr 1; omega)]
        · rw [decide_eq_false q, decide_eq_false (fun z => by injection z with z; omega)]
      rw [c]
      by_cases q : o = decide (i % 2 = 0)
      · rw [decide_eq_true q, decide_eq_true (congrArg V.bl q)]
      · rw [decide_eq_false q, decide_eq_false (fun z => q (by injection z))]
    rw [← e] at k
    exact k
theorem ok_HeatingSum_sum_within (T : Txt K mg a) : FnOk P w K mg base CX0 3 a.f_HeatingSum_sum_within a.d_HeatingSum_sum_within ["self", "number", "end"] (spSwn a) := by
  have G_HeatingSum_is_on : FnOk P w K mg base CX0 1 a.f_HeatingSum_is_on a.d_HeatingSum_is_on ["self", "number"] (spIso a) := ok_HeatingSum_is_on T
  have G_Timeline_begin_of : FnOk P w K mg base CX0 2 a.f_Timeline_begin_of a.d_Timeline_begin_of ["self", "number"] (spTb a) := ok_Timeline_begin_of T
  have G_sum_of_first : FnOk P w K mg base CX0 1 a.f_sum_of_first a.d_sum_of_first ["values", "count"] spSof := ok_sum_of_first T
  refine T.F_HeatingSum_sum_within.ok sc_HeatingSum_sum_within (fun vs H Q E h => ?_) (fun cdv A outer s H vs Q E hr h => ?_)
  · obtain ⟨x, dx, ad, tl, fs, p, am, bs, back, i, b, e, rfl, _⟩ := h
    rfl
  · obtain ⟨x, dx, ad, tl, fs, p, am, bs, back, i, b, e, rfl, hx, f1, f2, f3, f4, ham, pr, ta, co, hb, k⟩ := h
    refine ⟨_, (pss_cons (ps_if (pt_not (pt_val (pe_meth (pv 0) T.cl_HeatingSum T.me_HeatingSum_is_on G_HeatingSum_is_on (hr.mono (by decide)) (b_HeatingSum_is_on T) .nil pass0 (pa_cons (pv 1) pa_nil)))) (pss_one (ps_ret pe_int)) pss_nil)
      (pss_cons (ps_set (i := 3) sc_HeatingSum_sum_within.nd rfl (Or.inl rfl) (pe_meth (pe_fld (pv 0) rfl) T.cl_Timeline T.me_Timeline_begin_of G_Timeline_begin_of (hr.mono (by decide)) (b_Timeline_begin_of T) .nil pass0 (pa_cons (pv 1) pa_nil)))
      (pss_one (ps_ret (pe_op op_sub (pe_call G_sum_of_first (hr.mono (by decide)) (by rfl) T.mg_sum_of_first T.F_sum_of_first.kp (b_sum_of_first T) .nil pass0 (pa_cons (pe_fld (pv 0) rfl) (pa_cons (pv 2) pa_nil))) (pe_call G_sum_of_first (hr.mono (by decide)) (by rfl) T.mg_sum_of_first T.F_sum_of_first.kp (b_sum_of_first T) .nil pass0 (pa_cons (pe_fld (pv 0) rfl) (pa_cons (pv 3) pa_nil)))))))), ?_⟩
    have am1 := am_prs pr
    have bl := Th.at_lt hb
    have l9 := co.len
    refine ⟨_, rfl, x, dx, _, rfl, hx, f4, _, rfl, x, dx, fs, Th.onn p 0, i, rfl, hx, f1, ?_⟩
    rw [← chain_par co.chain hb]
    refine ⟨_, rfl, ?_⟩
    by_cases o : Th.onn p b = true
    · rw [if_pos o] at k
      refine ifF (by rw [o]; rfl) ?_
      obtain ⟨dz, lb, hz, hlb⟩ := id ta
      refine ⟨_, rfl, x, _, dx, _, _, rfl, hx, T.cl_HeatingSum, T.na_HeatingSum__timeline, f3, tl, dz, _, rfl, hz, rfl, _, rfl, tl, p, bs, back, i, rfl, ta, co, by omega, fun b' hb' => ?_, fun q => by omega⟩
      rw [hb] at hb'; cases hb'
      refine ⟨_, rfl, x, _, dx, _, _, rfl, hx, T.cl_HeatingSum, T.na_HeatingSum__amounts, f2, _, rfl, ad, am, e, rfl, ham, am1, fun H1 s1 => ?_⟩
      refine ⟨_, rfl, x, _, dx, _, _, rfl, s1 _ _ hx, T.cl_HeatingSum, T.na_HeatingSum__amounts, f2, _, rfl, ad, am, b, rfl, s1 _ _ ham, am1, fun H2 s2 => ?_⟩
      refine ⟨_, _, rfl, rfl, ?_⟩
      exact k _ (s1.trans s2)
    · rw [if_neg o] at k
      refine ifT (by simpa using o) ?_
      exact k _ (fun _ _ h => h)
theorem ok_HeatingSum_init (T : Txt K mg a) : FnOk P w K mg base CX0 4 a.f_HeatingSum_init a.d_HeatingSum_init ["self", "timeline", "on", "amounts"] (spYi a) := by
  have G_Timeline_in_rounds_of : FnOk P w K mg base CX0 3 a.f_Timeline_in_rounds_of a.d_Timeline_in_rounds_of ["self", "ticks"] (spIr a) := ok_Timeline_in_rounds_of T
  have G_Timeline_begin_of : FnOk P w K mg base CX0 2 a.f_Timeline_begin_of a.d_Timeline_begin_of ["self", "number"] (spTb a) := ok_Timeline_begin_of T
  have G_HeatingSum_sum_within : FnOk P w K mg base CX0 3 a.f_HeatingSum_sum_within a.d_HeatingSum_sum_within ["self", "number", "end"] (spSwn a) := ok_HeatingSum_sum_within T
  refine T.F_HeatingSum_init.ok sc_HeatingSum_init (fun vs H Q E h => ?_) (fun cdv A outer s H vs Q E hr h => ?_)
  · obtain ⟨x, dx, tl, ad, p, am, bs, back, rfl, _⟩ := h
    rfl
  · obtain ⟨x, dx, tl, ad, p, am, bs0, back, rfl, hx, ta0, co0, pr, ham, k⟩ := h
    refine ⟨_, (pss_cons (ps_fld (pv 0) (pv 2) rfl)
      (pss_cons (ps_fld (pv 0) (pv 3) rfl)
      (pss_cons (ps_fld (pv 0) (pe_meth (pv 1) T.cl_Timeline T.me_Timeline_in_rounds_of G_Timeline_in_rounds_of (hr.mono (by decide)) (b_Timeline_in_rounds_of T) .nil pass0 (pa_cons (pe_callB call_len_seq (by rfl) T.z_len PySem.boot_len (pa_cons (pv 3) pa_nil)) pa_nil)) rfl)
      (pss_cons (ps_fld (pv 0) (pe_lst (pa_cons pe_int pa_nil)) rfl)
      (pss_one (ps_for PassesOwn.never rfl (pi_range1 (by rfl) T.z_range (pa_cons (pe_fld (pe_fld (pv 0) rfl) rfl) pa_nil)) (pg_name (i := 4) sc_HeatingSum_init.nd rfl (Or.inl rfl))
        (pss_cons (ps_set (i := 5) sc_HeatingSum_init.nd rfl (Or.inl rfl) (pe_meth (pe_fld (pv 0) rfl) T.cl_Timeline T.me_Timeline_begin_of G_Timeline_begin_of (hr.mono (by decide)) (b_Timeline_begin_of T) .nil pass0 (pa_cons (pe_op op_add (pv 4) pe_int) pa_nil)))
      (pss_one (ps_expr (pe_bm PySem.F.plainAttrs_list PySem.F.slot_list_append PySem.F.type_list_append mt_append (pe_fld (pv 0) rfl) (pa_cons (pe_op op_add (pe_ix ix_list (pe_fld (pv 0) rfl) (pv 4) (fun _ _ => rfl)) (pe_meth (pv 0) T.cl_HeatingSum T.me_HeatingSum_sum_within G_HeatingSum_sum_within (hr.mono (by decide)) (b_HeatingSum_sum_within T) .nil pass0 (pa_cons (pv 4) (pa_cons (pv 5) pa_nil)))) pa_nil))))))))))), ?_⟩
    have nax : ad ≠ x := ne_of ham hx (fun z => nomatch z)
    refine ⟨_, rfl, _, rfl, x, _, dx, _, rfl, hx, T.cl_HeatingSum, T.na_HeatingSum__on, by show 0 < 1000; decide, ?_⟩
    refine ⟨_, rfl, _, rfl, x, _, dx, _, rfl, upd_same, T.cl_HeatingSum, T.na_HeatingSum__amounts, by show 1 < 1000; decide, ?_⟩
    generalize hH2 : upd (upd H x _) x _ = H2
    have hx2 : H2 x = some (.ins a.c_HeatingSum dx [("_on", .bl (Th.onn p 0)), ("_amounts", .ref ad)]) := by rw [← hH2, upd_same]; rfl
    have fr2 : Fr1 x H H2 := by rw [← hH2]; exact Fr1.upd.trans Fr1.upd
    have ham2 := fr2 _ _ nax ham
    obtain ⟨dt, lt, ht, hlt⟩ := id ta0
    have ntx : tl ≠ x := ne_of ht hx (fun z => by injection z with z1 z2 z3; cases z3)
    have nlx : lt ≠ x := ne_of hlt hx (fun z => nomatch z)
    have ta2 : TAt a H2 tl bs0 back := ⟨dt, lt, fr2 _ _ ntx ht, fr2 _ _ nlx hlt⟩
    refine ⟨_, rfl, tl, dt, _, rfl, fr2 _ _ ntx ht, rfl, _, rfl, ad, _, rfl, .inr (SqT.of ham2), tl, p, bs0, back, am.length, congrArg (fun y : Nat => [V.ref tl, V.int (y : Int)]) (List.length_map _), ta2, co0, pr.l1, pr.l24, fun z bs H3 s3 ta3 rn => ?_⟩
    have co := rn.co
    have ne := co.chain.ne
    have l9 := co.len
    have hx3 := s3 _ _ hx2
    refine ⟨_, rfl, x, _, dx, _, rfl, hx3, T.cl_HeatingSum, T.na_HeatingSum__timeline, by show 2 < 1000; decide, ?_⟩
    generalize hH4 : upd H3 x _ = H4
    have hx4 : H4 x = some (.ins a.c_HeatingSum dx [("_on", .bl (Th.onn p 0)), ("_amounts", .ref ad), ("_timeline", .ref z)]) := by rw [← hH4, upd_same]; rfl
    have fr4' : Fr1 x H3 H4 := by rw [← hH4]; exact Fr1.upd
    have ta4 : TAt a H4 z bs back := ta3.fr1 fr4' ⟨_, _, _, _, hx3⟩ (by decide)
    have ham4 := fr4' _ _ nax (s3 _ _ ham2)
    have fr4 : Fr1 x H H4 := (fr2.trans (Fr1.of s3)).trans fr4'
    refine ⟨by show 1 ≤ sizeLine; decide, fun ls nls => ?_⟩
    have nlsx : ls ≠ x := (ne_of_none hx4 nls).symm
    refine ⟨_, rfl, x, _, dx, _, rfl, (upd_ne nlsx.symm).trans hx4, T.cl_HeatingSum, T.na_HeatingSum__sums, by show 3 < 1000; decide, ?_⟩
    generalize hH5 : upd (upd H4 ls _) x _ = H5
    have hx5 : H5 x = some (.ins a.c_HeatingSum dx [("_on", .bl (Th.onn p 0)), ("_amounts", .ref ad), ("_timeline", .ref z), ("_sums", .ref ls)]) := by rw [← hH5, upd_same]; rfl
    have hls5 : H5 ls = some (.lst [.int 0]) := by rw [← hH5, upd_ne nlsx, upd_same]
    have kp5 : ∀ b o, b ≠ x → H4 b = some o → H5 b = some o := fun b o n e => by rw [← hH5, upd_ne n, upd_ne (ne_of_none e nls)]; exact e
    obtain ⟨dz, lz, hz, hlz⟩ := id ta4
    have nzx : z ≠ x := ne_of hz hx4 (fun q => by injection q with _ _ q; injection q with q _; injection q with q _; exact absurd q (by decide))
    have nlzx : lz ≠ x := ne_of hlz hx4 (fun q => nomatch q)
    have kp : ∀ H', Fr1 ls H5 H' → ∀ b o, b ≠ x → H4 b = some o → H' b = some o := fun H' fr b o n e => fr b o (ne_of_none e nls) (kp5 b o n e)
    have e1 : ((bs.length : Int) - 1) = ((bs.length - 1 : Nat) : Int) := by omega
    refine ⟨_, rfl, x, _, dx, _, _, rfl, hx5, T.cl_HeatingSum, T.na_HeatingSum__timeline, rfl, z, _, dz, _, _, rfl, kp5 _ _ nzx hz, T.cl_Timeline, T.na_Timeline_last, rfl, ((bs.length - 1 : Nat) : Int), congrArg (fun y => [V.int y]) e1, by omega, by omega, ?_⟩
    refine for_range (lo := 0) (n := bs.length - 1) (fun i σ H' => ∃ u v : Option V, σ = [some (.ref x), some (.ref tl), some (.bl (Th.onn p 0)), some (.ref ad), u, v] ∧ Fr1 ls H5 H' ∧ H' ls = some (.lst ((bs.take (i + 1)).map fun b => V.int (Th.Ac p am b)))) ⟨none, none, rfl, fun _ _ _ h => h, ?_⟩ ?_ ?_
    · rw [hls5, take_at co.chain.1]; rfl
    · rintro i σ H' hi ⟨u, v, rfl, fr, hls'⟩
      have kk := kp H' fr
      have hx' := fr _ _ nlsx.symm hx5
      have ta' : TAt a H' z bs back := ⟨dz, lz, kk _ _ nzx hz, kk _ _ nlzx hlz⟩
      obtain ⟨b, hb⟩ := Th.at_some (bs := bs) (i := i) (by omega)
      obtain ⟨e, he⟩ := Th.at_some (bs := bs) (i := i + 1) (by omega)
      have ei : (0 : Int) + (i : Int) + 1 = ((i + 1 : Nat) : Int) := by omega
      have e0 : (0 : Int) + (i : Int) = ((i : Nat) : Int) := by omega
      refine ⟨_, rfl, x, _, dx, _, _, rfl, hx', T.cl_HeatingSum, T.na_HeatingSum__timeline, rfl, z, dz, _, rfl, kk _ _ nzx hz, rfl, _, rfl, _, _, rfl, rfl, z, p, bs, back, i + 1, congrArg (fun y => [V.ref z, V.int y]) ei, ta', co, by omega, fun e' he' => ?_, fun q => by omega⟩
      rw [he] at he'; cases he'
      refine ⟨_, rfl, x, _, dx, _, _, rfl, hx', T.cl_HeatingSum, T.na_HeatingSum__sums, rfl, .inl ⟨rfl, _, SqL.of hls'⟩, _, rfl, x, _, dx, _, _, rfl, hx', T.cl_HeatingSum, T.na_HeatingSum__sums, rfl, _, rfl, ls, _, _, _, rfl, rfl, SqL.of hls', by rw [e0]; exact atI_nat (v := V.int (Th.Ac p am b)) (by rw [List.getElem?_map, List.getElem?_take_of_lt (Nat.lt_succ_self i), hb]; rfl), _, rfl, x, dx, _, rfl, hx', rfl, _, rfl, _, rfl, x, dx, ad, z, _, p, am, bs, back, i, b, e, congrArg (fun y => [V.ref x, V.int y, V.int (e : Int)]) e0, hx', rfl, rfl, rfl, rfl, kk _ _ nax ham4, pr, ta', co, hb, fun H6 s6 => ?_⟩
      have nx := co.chain.2 i b e hb he
      have hh := Th.run_cost (am := am) (Nat.le_of_lt nx.1) nx.2.1
      refine ⟨_, _, rfl, rfl, ls, _, _, rfl, rfl, s6 _ _ hls', by rw [List.length_map, List.length_take]; show _ < 16777216; omega, ?_⟩
      refine ⟨_, _, rfl, fun c o n q => by rw [upd_ne n]; exact s6 _ _ (fr c o n q), ?_⟩
      rw [upd_same, take_at he, List.map_append]
      have ee : Th.Ac p am b + (if Th.onn p b = true then Th.sumTo am 0 e - Th.sumTo am 0 b else 0) = Th.Ac p am e := hh.symm
      exact congrArg (fun y => some (HO.lst ((bs.take (i + 1)).map (fun b => V.int (Th.Ac p am b)) ++ [V.int y]))) ee
    · rintro σ H' ⟨u, v, rfl, fr, hls'⟩
      have kk := kp H' fr
      rw [show bs.length - 1 + 1 = bs.length by omega, List.take_length] at hls'
      refine k bs H' (fun b o n e => kk b o n (fr4 b o n e)) ⟨dx, ad, z, ls, fr _ _ nlsx.symm hx5, kk _ _ nax ham4, ⟨dz, lz, kk _ _ nzx hz, kk _ _ nlzx hlz⟩, hls'⟩ rn
theorem ok_HeatingSum_sum_of_round (T : Txt K mg a) : FnOk P w K mg base CX0 1 a.f_HeatingSum_sum_of_round a.d_HeatingSum_sum_of_round ["self"] (spYr a) := by
  refine T.F_HeatingSum_sum_of_round.ok sc_HeatingSum_sum_of_round (fun vs H Q E h => ?_) (fun cdv A outer s H vs Q E hr h => ?_)
  · obtain ⟨x, p, am, bs, k, f, l, rfl, _⟩ := h
    rfl
  · obtain ⟨x, p, am, bs, kb, f, l, rfl, ⟨dx, ad, tl, ls, hx, ham, ⟨dt, lt, ht, hlt⟩, hls⟩, hf, hl, k⟩ := h
    refine ⟨_, (pss_one (ps_ret (pe_op op_sub (pe_ix ix_list (pe_fld (pv 0) rfl) (pe_fld (pe_fld (pv 0) rfl) rfl) (fun _ _ => rfl)) (pe_ix ix_list (pe_fld (pv 0) rfl) (pe_fld (pe_fld (pv 0) rfl) rfl) (fun _ _ => rfl))))), ?_⟩
    have ne : 0 < bs.length := by have := Th.at_lt hl; omega
    have hat : ∀ {j e : Nat}, bs[j]? = some e → (bs.map fun b => V.int (Th.Ac p am b))[j]? = some (.int (Th.Ac p am e)) := fun h => by rw [List.getElem?_map, h]; rfl
    exact ⟨_, rfl, x, _, dx, _, _, rfl, hx, T.cl_HeatingSum, T.na_HeatingSum__sums, rfl, _, rfl, x, _, dx, _, _, rfl, hx, T.cl_HeatingSum, T.na_HeatingSum__timeline, rfl, tl, _, dt, _, _, rfl, ht, T.cl_Timeline, T.na_Timeline_last, rfl, ls, _, _, _, rfl, rfl, SqL.of hls, by rw [show ((bs.length : Int) - 1) = ((bs.length - 1 : Nat) : Int) by omega]; exact atI_nat (hat hl), _, rfl, x, _, dx, _, _, rfl, hx, T.cl_HeatingSum, T.na_HeatingSum__sums, rfl, _, rfl, x, _, dx, _, _, rfl, hx, T.cl_HeatingSum, T.na_HeatingSum__timeline, rfl, tl, _, dt, _, _, rfl, ht, T.cl_Timeline, T.na_Timeline_back, rfl, ls, _, _, _, rfl, rfl, SqL.of hls, atI_nat (hat hf), _, _, rfl, rfl, k⟩
theorem okx_HeatingSum_sum_before (T : Txt K mg a) : FnOk P w K mg base CX0 4 a.f_HeatingSum_sum_before a.d_HeatingSum_sum_before ["self", "tick"] (spYbX a) := by
  have G_Timeline_place : FnOk P w K mg base CX0 2 a.f_Timeline_place a.d_Timeline_place ["self", "tick"] (spPlace a) := ok_Timeline_place T
  have G_HeatingSum_sum_within : FnOk P w K mg base CX0 3 a.f_HeatingSum_sum_within a.d_HeatingSum_sum_within ["self", "number", "end"] (spSwn a) := ok_HeatingSum_sum_within T
  have G_HeatingSum_sum_of_round : FnOk P w K mg base CX0 1 a.f_HeatingSum_sum_of_round a.d_HeatingSum_sum_of_round ["self"] (spYr a) := ok_HeatingSum_sum_of_round T
  refine T.F_HeatingSum_sum_before.ok sc_HeatingSum_sum_before (fun vs H Q E h => ?_) (fun cdv A outer s H vs Q E hr h => ?_)
  · obtain ⟨x, p, am, bs, back, t, rfl, _⟩ := h
    rfl
  · obtain ⟨x, p, am, bs, back, t, rfl, ya, pr, dv, co, t18, k⟩ := h
    refine ⟨_, (pss_cons (ps_asg (pe_meth (pe_fld (pv 0) rfl) T.cl_Timeline T.me_Timeline_place G_Timeline_place (hr.mono (by decide)) (b_Timeline_place T) .nil pass0 (pa_cons (pv 1) pa_nil)) (pg_tup rfl (pgs_cons (pg_name (i := 2) sc_HeatingSum_sum_before.nd rfl (Or.inl rfl)) (pgs_cons (pg_name (i := 3) sc_HeatingSum_sum_before.nd rfl (Or.inl rfl)) (pgs_cons (pg_name (i := 4) sc_HeatingSum_sum_before.nd rfl (Or.inl rfl)) pgs_nil)))))
      (pss_cons (ps_set (i := 5) sc_HeatingSum_sum_before.nd rfl (Or.inl rfl) (pe_op op_add (pe_ix ix_list (pe_fld (pv 0) rfl) (pv 3) (fun _ _ => rfl)) (pe_meth (pv 0) T.cl_HeatingSum T.me_HeatingSum_sum_within G_HeatingSum_sum_within (hr.mono (by decide)) (b_HeatingSum_sum_within T) .nil pass0 (pa_cons (pv 3) (pa_cons (pv 4) pa_nil)))))
      (pss_cons (ps_if (pt_cmpR op_gt (pv 2) pe_int (nomark _)) (pss_one (ps_set (i := 5) sc_HeatingSum_sum_before.nd rfl (Or.inl rfl) (pe_op op_add (pv 5) (pe_op op_mul (pv 2) (pe_meth0 (pv 0) T.cl_HeatingSum T.me_HeatingSum_sum_of_round G_HeatingSum_sum_of_round (hr.mono (by decide)) (b_HeatingSum_sum_of_round T) .nil pass0))))) pss_nil)
      (pss_one (ps_ret (pv 5)))))), ?_⟩
    obtain ⟨dx, ad, tl, ls, hx, ham, ta, hls⟩ := id ya
    obtain ⟨dt, lt, ht, hlt⟩ := id ta
    refine ⟨_, rfl, x, _, dx, _, _, rfl, hx, T.cl_HeatingSum, T.na_HeatingSum__timeline, rfl, tl, dt, _, rfl, ht, rfl, _, rfl, tl, p, bs, back, t, rfl, ta, co, t18, fun z H1 r i t' sm nz hz pl rt => ?_⟩
    obtain ⟨b, hb, le, nx⟩ := pl.at'
    obtain ⟨h1, h2, h3⟩ := pl.cost co dv hb
    have hx1 := sm _ _ hx
    have ya1 := ya.same sm
    have hat : ∀ {j e : Nat}, bs[j]? = some e → (bs.map fun b => V.int (Th.Ac p am b))[j]? = some (.int (Th.Ac p am e)) := fun h => by rw [List.getElem?_map, h]; rfl
    refine ⟨z, _, rfl, SqT.of hz, rfl, _, _, rfl, _, _, rfl, _, _, rfl, rfl, ?_⟩
    refine ⟨_, rfl, x, _, dx, _, _, rfl, hx1, T.cl_HeatingSum, T.na_HeatingSum__sums, rfl, _, rfl, ls, _, _, _, rfl, rfl, SqL.of (sm _ _ hls), atI_nat (hat hb), _, rfl, x, dx, _, rfl, hx1, rfl, _, rfl, _, rfl, x, dx, ad, tl, _, p, am, bs, back, i, b, t', rfl, hx1, rfl, rfl, rfl, rfl, sm _ _ ham, pr, ta.same sm, co, hb, fun H2 s2 => ?_⟩
    have e1 : Th.Ac p am b + (if Th.onn p b = true then Th.sumTo am 0 t' - Th.sumTo am 0 b else 0) = Th.Ac p am t' := h1.symm
    refine ⟨_, _, rfl, rfl, ?_⟩
    refine ⟨_, rfl, _, _, rfl, rfl, _, rfl, ?_⟩
    by_cases c2 : 0 < r
    · refine ifT (dT (by omega)) ?_
      cases back with
      | none =>
        have := (pl.non rfl).1
        omega
      | some kb =>
        obtain ⟨_, kl, f, l, hf, hl, stt⟩ := co.rep kb rfl
        have h3 := h3 kb f l rfl hf hl c2
        refine ⟨_, rfl, _, rfl, _, rfl, x, dx, _, rfl, s2 _ _ hx1, rfl, x, p, am, bs, kb, f, l, rfl, ya1.same s2, hf, hl, _, _, rfl, rfl, .inl ⟨by omega, by omega⟩, _, _, rfl, rfl, ?_⟩
        refine ⟨_, rfl, ?_⟩
        have e := k H2 (sm.trans s2)
        rw [h3, ← e1] at e
        exact e
    · refine ifF (dF (by omega)) ?_
      refine ⟨_, rfl, ?_⟩
      have e := k H2 (sm.trans s2)
      rw [h2 (by omega), ← e1] at e
      exact e
theorem ok_HeatingSum_sum_before (T : Txt K mg a) : FnOk P w K mg base CX0 4 a.f_HeatingSum_sum_before a.d_HeatingSum_sum_before ["self", "tick"] (spYb a) :=
  (okx_HeatingSum_sum_before T).imp fun vs H Q E h => by
    obtain ⟨x, p, bs, back, t, rfl, ya, co, t18, k⟩ := h
    refine ⟨x, p, [1], bs, back, t, rfl, ya.x, Th.prs_one, dv_one, co, t18, fun H' s => ?_⟩
    rw [Th.Ac_one]
    exact k H' s
theorem okx_HeatingSum_share (T : Txt K mg a) : FnOk P w K mg base CX0 2 a.f_HeatingSum_share a.d_HeatingSum_share ["self"] (spYsX a) := by
  have G_lowest_terms : FnOk P w K mg base CX0 1 a.f_lowest_terms a.d_lowest_terms ["numerator", "denominator"] spLt := ok_lowest_terms T
  have G_HeatingSum_sum_of_round : FnOk P w K mg base CX0 1 a.f_HeatingSum_sum_of_round a.d_HeatingSum_sum_of_round ["self"] (spYr a) := ok_HeatingSum_sum_of_round T
  have G_Timeline_ticks_of_round : FnOk P w K mg base CX0 1 a.f_Timeline_ticks_of_round a.d_Timeline_ticks_of_round ["self"] (spTor a) := ok_Timeline_ticks_of_round T
  have G_HeatingSum_is_on : FnOk P w K mg base CX0 1 a.f_HeatingSum_is_on a.d_HeatingSum_is_on ["self", "number"] (spIso a) := ok_HeatingSum_is_on T
  refine T.F_HeatingSum_share.ok sc_HeatingSum_share (fun vs H Q E h => ?_) (fun cdv A outer s H vs Q E hr h => ?_)
  · obtain ⟨x, p, am, bs, back, rfl, _⟩ := h
    rfl
  · obtain ⟨x, p, am, bs, back, rfl, ya, pr, co, k⟩ := h
    refine ⟨_, (pss_cons (ps_if (pt_cmpR op_notN (pe_fld (pe_fld (pv 0) rfl) rfl) pe_non (nomark _)) (pss_one (ps_ret (pe_call G_lowest_terms (hr.mono (by decide)) (by rfl) T.mg_lowest_terms T.F_lowest_terms.kp (b_lowest_terms T) .nil pass0 (pa_cons (pe_meth0 (pv 0) T.cl_HeatingSum T.me_HeatingSum_sum_of_round G_HeatingSum_sum_of_round (hr.mono (by decide)) (b_HeatingSum_sum_of_round T) .nil pass0) (pa_cons (pe_meth0 (pe_fld (pv 0) rfl) T.cl_Timeline T.me_Timeline_ticks_of_round G_Timeline_ticks_of_round (hr.mono (by decide)) (b_Timeline_ticks_of_round T) .nil pass0) pa_nil))))) pss_nil)
      (pss_cons (ps_if (pt_val (pe_meth (pv 0) T.cl_HeatingSum T.me_HeatingSum_is_on G_HeatingSum_is_on (hr.mono (by decide)) (b_HeatingSum_is_on T) .nil pass0 (pa_cons (pe_fld (pe_fld (pv 0) rfl) rfl) pa_nil))) (pss_one (ps_ret (pe_call G_lowest_terms (hr.mono (by decide)) (by rfl) T.mg_lowest_terms T.F_lowest_terms.kp (b_lowest_terms T) .nil pass0 (pa_cons (pe_callB (cr_sumT rfl) (by rfl) T.z_sum (by decide +kernel) (pa_cons (pe_fld (pv 0) rfl) pa_nil)) (pa_cons (pe_callB call_len_seq (by rfl) T.z_len PySem.boot_len (pa_cons (pe_fld (pv 0) rfl) pa_nil)) pa_nil))))) pss_nil)
      (pss_one (ps_ret (pe_tup (pa_cons pe_int (pa_cons pe_int pa_nil))))))), ?_⟩
    obtain ⟨dx, ad, tl, ls, hx, ham, ta, hls⟩ := id ya
    obtain ⟨dt, lt, ht, hlt⟩ := id ta
    have ne := co.chain.ne
    cases back with
    | none =>
      obtain ⟨_, b, hb, nv⟩ := co.fin rfl
      refine ⟨_, rfl, x, _, dx, _, _, rfl, hx, T.cl_HeatingSum, T.na_HeatingSum__timeline, rfl, tl, _, dt, _, _, rfl, ht, T.cl_Timeline, T.na_Timeline_back, rfl, rfl, _, rfl, ?_⟩
      refine ifF rfl ?_
      refine ⟨_, rfl, x, dx, _, rfl, hx, rfl, _, rfl, x, _, dx, _, _, rfl, hx, T.cl_HeatingSum, T.na_HeatingSum__timeline, rfl, tl, _, dt, _, _, rfl, ht, T.cl_Timeline, T.na_Timeline_last, rfl, x, dx, _, Th.onn p 0, bs.length - 1, congrArg (fun y => [V.ref x, V.int y]) (by omega), hx, rfl, ?_⟩
      rw [← chain_par co.chain hb]
      refine ⟨_, rfl, ?_⟩
      by_cases o : Th.onn p b = true
      · refine ifT o ?_
        obtain ⟨h, eh⟩ : ∃ h : Nat, am.sum = (h : Int) := ⟨am.sum.toNat, by have := (sum_nn pr.bd).1; omega⟩
        have el : (am.map V.int).length = am.length := List.length_map _
        have l1 := pr.l1
        have l24 := pr.l24
        refine ⟨_, rfl, x, _, dx, _, _, rfl, hx, T.cl_HeatingSum, T.na_HeatingSum__amounts, rfl, ad, am, rfl, SqT.of ham, _, rfl, x, _, dx, _, _, rfl, hx, T.cl_HeatingSum, T.na_HeatingSum__amounts, rfl, ad, _, rfl, .inr (SqT.of ham), h, am.length, by rw [eh, el]; rfl, by omega, by omega, fun y H' s ny hy => ?_⟩
        exact k y H' _ _ s ny hy ⟨b, hb, .inr ⟨h, o, eh, rfl, rfl⟩⟩
      · refine ifF (by simpa using o) ⟨by show 2 ≤ sizeLine; decide, fun y ny => ?_⟩
        exact k y _ 0 1 (same_upd ny) ny upd_same ⟨b, hb, .inl ⟨by simpa using o, rfl, rfl⟩⟩
    | some kb =>
      obtain ⟨_, kl, f, l, hf, hl, stt⟩ := co.rep kb rfl
      obtain ⟨lt, pe⟩ := co.per rfl hf hl
      have eT : (l : Int) - (f : Int) = ((l - f : Nat) : Int) := by omega
      have hm := Th.Ac_le (p := p) pr (Nat.le_of_lt lt)
      obtain ⟨h, eh⟩ : ∃ h : Nat, Th.Ac p am l - Th.Ac p am f = (h : Int) := ⟨(Th.Ac p am l - Th.Ac p am f).toNat, by omega⟩
      have fl := co.far _ _ hl
      refine ⟨_, rfl, x, _, dx, _, _, rfl, hx, T.cl_HeatingSum, T.na_HeatingSum__timeline, rfl, tl, _, dt, _, _, rfl, ht, T.cl_Timeline, T.na_Timeline_back, rfl, rfl, _, rfl, ?_⟩
      refine ifT rfl ?_
      refine ⟨_, rfl, x, dx, _, rfl, hx, rfl, x, p, am, bs, kb, f, l, rfl, ya, hf, hl, _, rfl, x, _, dx, _, _, rfl, hx, T.cl_HeatingSum, T.na_HeatingSum__timeline, rfl, tl, dt, _, rfl, ht, rfl, tl, bs, kb, f, l, rfl, ta, hf, hl, h, l - f, by rw [eh, eT]; rfl, by omega, by omega, fun y H' s ny hy => ?_⟩
      exact k y H' _ _ s ny hy ⟨f, l, h, hf, hl, eh, rfl, rfl⟩
theorem ok_HeatingSum_share (T : Txt K mg a) : FnOk P w K mg base CX0 2 a.f_HeatingSum_share a.d_HeatingSum_share ["self"] (spYs a) :=
  (okx_HeatingSum_share T).imp fun vs H Q E h => by
    obtain ⟨x, p, bs, back, rfl, ya, co, k⟩ := h
    refine ⟨x, p, [1], bs, back, rfl, ya.x, Th.prs_one, co, fun z H' t b s nz hz sh => k z H' t b s nz hz ?_⟩
    exact share_one co sh
end
end W6

namespace W6
open PySem PySem.Spec PyProof.Rows L2 Ru StX
section
variable (a : Ad)
def spCi : Sp := fun vs H Q _ => ∃ (x dx t : Addr) (p : Th.Par), vs = [.ref x, .ref t, .int p.g, .int p.lo, .int p.hi, .int p.st, .bl p.on0] ∧ H x = some (.ins a.c_Course dx []) ∧ H t = some (.tup (p.ch.map V.int)) ∧ p.Ok ∧ ∀ bs back H', Th.CourseOk p bs back → CAt a H' x p bs back → Fr1 x H H' → Q .non H'
def spCh : Sp := fun vs H Q _ => ∃ (c dx ad tl ls : Addr) (fs : List (Str × V)) (p : Th.Par) (am : List Int) (bs : List Nat) (back : Option Nat) (qs : List Addr), vs = [.ref c, .ref ad] ∧ H c = some (.ins a.c_Course dx fs) ∧ fs.lookup ("_timeline" : Str) = some (.ref tl) ∧ fs.lookup ("_stretches" : Str) = some (.ref ls) ∧ H ls = some (.lst (qs.map V.ref)) ∧ Sts a H p qs bs ∧ TAt a H tl bs back ∧ Th.CourseOk p bs back ∧ Th.Prs am ∧ H ad = some (.tup (am.map V.int)) ∧
  ∀ z bs' H', Same H H' → YAtX a H' z p am bs' back → Th.Rnd p bs back am.length bs' → Q (.ref z) H'
end
section
variable {P : Program} {w : World} {K : PySem.W.Frag} {mg : Str → Option Value} {base : Heap} {a : Ad}
/-- what stands in some places is no part of a drift -/
def Away (H : Hp) (S : List Addr) : Prop := ∀ y ∈ S, H y = some (.lst [])
theorem DAt.away {H : Hp} {S : List Addr} {z : Addr} {cs : List Int} {gg : Int} (h : DAt a H z cs gg) (s : Away H S) : DAt a (del H S) z cs gg := by
  obtain ⟨q, dx, l, h1, h2⟩ := h
  refine ⟨q, dx, l, ?_, ?_⟩
  · rw [del_in fun m => ?_]
    · exact h1
    · have e := s z m
      rw [h1] at e; cases e
  · rw [del_in fun m => ?_]
    · exact h2
    · have e := s l m
      rw [h2] at e
      injection e with e
      injection e with e
      have := congrArg List.length e
      unfold sumsV at this
      rw [List.length_map, List.length_range] at this
      have z : cs.length = 0 := this
      have := q.1.1
      omega
theorem DDs.away {H : Hp} {S : List Addr} {z : Addr} {cs : List Int} {g : Int} (h : DDs a H z cs g) (s : Away H S) : DDs a (del H S) z cs g := by
  obtain ⟨d0, d1, h1, h2, h3⟩ := h
  refine ⟨d0, d1, ?_, h2.away s, h3.away s⟩
  rw [del_in fun m => ?_]
  · exact h1
  · have e := s z m
    rw [h1] at e; cases e
theorem ok_Course_heating_sum (T : Txt K mg a) : FnOk P w K mg base CX0 6 a.f_Course_heating_sum a.d_Course_heating_sum ["self", "amounts"] (spCh a) := by
  have G_HeatingSum_init : FnOk P w K mg base CX0 4 a.f_HeatingSum_init a.d_HeatingSum_init ["self", "timeline", "on", "amounts"] (spYi a) := ok_HeatingSum_init T
  refine T.F_Course_heating_sum.ok sc_Course_heating_sum (fun vs H Q E h => ?_) (fun cdv A outer s H vs Q E hr h => ?_)
  · obtain ⟨c, dx, ad, tl, ls, fs, p, am, bs, back, qs, rfl, _⟩ := h
    rfl
  · obtain ⟨c, dx, ad, tl, ls, fs, p, am, bs, back, qs, rfl, hc, f1, f2, hls, sts, ta, co, pr, ham, k⟩ := h
    refine ⟨_, (pss_one (ps_ret (pe_make T.mk_HeatingSum G_HeatingSum_init (hr.mono (by decide)) (by rfl) T.mg_HeatingSum (b_HeatingSum_init T) .nil pass0 (pa_cons (pe_fld (pv 0) rfl) (pa_cons (pe_fld (pe_ix ix_list (pe_fld (pv 0) rfl) pe_int (fun _ _ => rfl)) rfl) (pa_cons (pv 1) pa_nil)))))), ?_⟩
    obtain ⟨q0, hq0, sq0⟩ := sts_at sts co.chain.1
    obtain ⟨ds, td, d, hx, dd, hd⟩ := id sq0
    refine ⟨_, rfl, c, _, dx, _, _, rfl, hc, T.cl_Course, T.na_Course__timeline, f1, _, rfl, c, _, dx, _, _, rfl, hc, T.cl_Course, T.na_Course__stretches, f2, ls, _, _, _, rfl, rfl, SqL.of hls, atI_nat (j := 0) hq0, q0, _, ds, _, _, rfl, hx, T.cl_Stretch, T.na_Stretch_on, rfl, _, rfl, fun z dz nz nd ne => ?_⟩
    have s4 := same_made (x := z) (dx := dz) (C := a.c_HeatingSum) nz nd
    exact ⟨z, dz, tl, ad, p, am, bs, back, rfl, upd_same, ta.same s4, co, pr, s4 _ _ ham, fun bs' H5 fr5 ya rn => ⟨rfl, k z bs' H5 (Fr1.made nz nd fr5) ya rn⟩⟩
theorem ok_Course_init (T : Txt K mg a) : FnOk P w K mg base CX0 7 a.f_Course_init a.d_Course_init ["self", "changes", "gain", "low", "high", "start", "on"] (spCi a) := by
  have G_heater_state : FnOk P w K mg base CX0 1 a.f_heater_state a.d_heater_state ["degrees", "low", "high", "before"] spHst := ok_heater_state T
  have G_Course_follow : FnOk P w K mg base CX0 5 a.f_Course_follow a.d_Course_follow ["self", "stretch"] (spFollow a) := ok_Course_follow T
  have G_both_drifts : FnOk P w K mg base CX0 3 a.f_both_drifts a.d_both_drifts ["changes", "gain"] (spBoth a) := ok_both_drifts T
  have G_Stretch_init : FnOk P w K mg base CX0 2 a.f_Stretch_init a.d_Stretch_init ["self", "drifts", "on", "begin", "degrees"] (spSi a) := ok_Stretch_init T
  have G_Timeline_init : FnOk P w K mg base CX0 1 a.f_Timeline_init a.d_Timeline_init ["self", "begins", "back"] (spTi a) := ok_Timeline_init T
  have G_Course_heating_sum : FnOk P w K mg base CX0 6 a.f_Course_heating_sum a.d_Course_heating_sum ["self", "amounts"] (spCh a) := ok_Course_heating_sum T
  refine T.F_Course_init.ok sc_Course_init (fun vs H Q E h => ?_) (fun cdv A outer s H vs Q E hr h => ?_)
  · obtain ⟨x, dx, t, p, rfl, _⟩ := h
    rfl
  · obtain ⟨x, dx, t, p, rfl, hx, ht, ok, k⟩ := h
    refine ⟨_, (pss_cons (ps_fld (pv 0) (pv 3) rfl)
      (pss_cons (ps_fld (pv 0) (pv 4) rfl)
      (pss_cons (ps_fld (pv 0) (pe_lst pa_nil) rfl)
      (pss_cons (ps_set (i := 7) sc_Course_init.nd rfl (Or.inl rfl) (pe_call G_heater_state (hr.mono (by decide)) (by rfl) T.mg_heater_state T.F_heater_state.kp (b_heater_state T) .nil pass0 (pa_cons (pv 5) (pa_cons (pv 3) (pa_cons (pv 4) (pa_cons (pv 6) pa_nil))))))
      (pss_cons (ps_set (i := 8) sc_Course_init.nd rfl (Or.inl rfl) (pe_meth (pv 0) T.cl_Course T.me_Course_follow G_Course_follow (hr.mono (by decide)) (b_Course_follow T) .nil pass0 (pa_cons (pe_make T.mk_Stretch G_Stretch_init (hr.mono (by decide)) (by rfl) T.mg_Stretch (b_Stretch_init T) .nil pass0 (pa_cons (pe_call G_both_drifts (hr.mono (by decide)) (by rfl) T.mg_both_drifts T.F_both_drifts.kp (b_both_drifts T) .nil pass0 (pa_cons (pv 1) (pa_cons (pv 2) pa_nil))) (pa_cons (pv 7) (pa_cons pe_int (pa_cons (pv 5) pa_nil))))) pa_nil)))
      (pss_cons (ps_fld (pv 0) (pe_make T.mk_Timeline G_Timeline_init (hr.mono (by decide)) (by rfl) T.mg_Timeline (b_Timeline_init T) .nil pass0 (pa_cons (pe_lc (own := [("stretch", 9)]) (g := gName 9) rfl sc_Course_init.nd (pi_list (pe_fld (pv 0) rfl)) (blkOk_by (own := [("stretch", 9)]) (N := ["self", "changes", "gain", "low", "high", "start", "on", "state", "back", "stretch"]) (sc := (defScope s_Course_init)) (by decide +kernel)) (fun _ _ _ _ _ => pg_name (i := 9) sc_Course_init.nd rfl (Or.inl rfl)) (fun _ _ _ _ _ => pts_nil) (fun _ _ _ _ _ => (show PE _ _ (tFld K (tVar 9) ("begin" : Str)) from pe_fld (pv 9) rfl))) (pa_cons (pv 8) pa_nil))) rfl)
      (pss_one (ps_fld (pv 0) (pe_meth (pv 0) T.cl_Course T.me_Course_heating_sum G_Course_heating_sum (hr.mono (by decide)) (b_Course_heating_sum T) .nil pass0 (pa_cons (pe_tup (pa_cons pe_int pa_nil)) pa_nil)) rfl)))))))), ?_⟩
    refine ⟨_, rfl, _, rfl, x, _, dx, _, rfl, hx, T.cl_Course, T.na_Course__low, by show 0 < 1000; decide, ?_⟩
    refine ⟨_, rfl, _, rfl, x, _, dx, _, rfl, upd_same, T.cl_Course, T.na_Course__high, by show 1 < 1000; decide, ?_⟩
    generalize hH2 : upd (upd H x _) x _ = H2
    have hx2 : H2 x = some (.ins a.c_Course dx [("_low", .int p.lo), ("_high", .int p.hi)]) := by rw [← hH2, upd_same]; rfl
    have fr2 : Fr1 x H H2 := by rw [← hH2]; exact Fr1.upd.trans Fr1.upd
    refine ⟨Nat.zero_le _, fun ls nls => ?_⟩
    have nlx : ls ≠ x := (ne_of_none hx2 nls).symm
    refine ⟨_, rfl, x, _, dx, _, rfl, (upd_ne nlx.symm).trans hx2, T.cl_Course, T.na_Course__stretches, by show 2 < 1000; decide, ?_⟩
    generalize hH4 : upd (upd H2 ls _) x _ = H4
    have hx4 : H4 x = some (.ins a.c_Course dx [("_low", .int p.lo), ("_high", .int p.hi), ("_stretches", .ref ls)]) := by rw [← hH4, upd_same]; rfl
    have hls4 : H4 ls = some (.lst []) := by rw [← hH4, upd_ne nlx, upd_same]
    have fr4 : Fr1 x H H4 := by rw [← hH4]; exact (fr2.trans (Fr1.of (same_upd nls))).trans Fr1.upd
    have ntx : t ≠ x := ne_of ht hx (fun z => nomatch z)
    refine ⟨_, rfl, _, rfl, _, rfl, _, rfl, p.st, p.lo, p.hi, p.on0, rfl, ?_⟩
    refine ⟨_, rfl, x, dx, _, rfl, hx4, rfl, ?_⟩
    have ht4 := fr4 _ _ ntx ht
    refine ⟨_, rfl, _, rfl, t, p.ch, p.g, rfl, ht4, ⟨ok.n1, ok.n24, ok.chb⟩, ok.g1, ok.g200, fun td H5 sm5 dds => ?_⟩
    refine ⟨_, rfl, _, rfl, fun z dz nz nd ne => ?_⟩
    have hx5 := sm5 _ _ hx4
    have hls5 := sm5 _ _ hls4
    have aw : Away H5 [ls] := fun y hy => by
      obtain rfl := List.mem_singleton.mp hy
      exact hls5
    have nzS : z ∉ [ls] := fun m => by
      rw [aw z m] at nz; cases nz
    have s6 := same_made (x := z) (dx := dz) (C := a.c_Stretch) nz nd
    refine ⟨[ls], z, dz, td, p.ch, p.g, p.st, Th.hst p.st p.lo p.hi p.on0, 0, rfl, upd_same, nzS, (dds.away aw).same (Same.del s6), fun H7 fr7 st7 => ⟨rfl, ?_⟩⟩
    have s7 : Same H5 H7 := Fr1.made nz nd fr7
    have hx7 := s7 _ _ hx5
    refine ⟨x, z, dx, ls, p, rfl, hx7, s7 _ _ hls5, ok, st7, fun bs back qs H8 co hls8 sts8 fr8 => ?_⟩
    have nxl : x ≠ ls := nlx.symm
    have hx8 := fr8 _ _ nxl hx7
    -- Timeline([..], back)
    refine ⟨_, rfl, x, _, dx, _, _, rfl, hx8, T.cl_Course, T.na_Course__stretches, rfl, ls, rfl, ⟨_, SqL.of hls8⟩, fun D hD => lc_list (K := K) (a := ls) (xs := qs.map V.ref) (fun i H' => Fr1 D H8 H' ∧ H' D = some (.lst (bgs (bs.take i)))) ⟨Fr1.upd, by rw [upd_same]; rfl⟩ (fun i H' _ ⟨fr, _⟩ => SqL.of (fr _ _ (ne_of_none hls8 hD) hls8)) ?_ ?_⟩
    · rintro i v H' hi ⟨fr, hD'⟩
      have il := Th.at_lt hi
      rw [List.length_map, sts8.1] at il
      obtain ⟨b, hb⟩ := Th.at_some il
      obtain ⟨q, hq, sq⟩ := sts_at sts8 hb
      rw [hq] at hi; cases hi
      obtain ⟨ds, td', d', hq8, _⟩ := id sq
      refine ⟨rfl, ?_⟩
      refine ⟨_, rfl, q, _, ds, _, _, rfl, fr _ _ (ne_of_none hq8 hD) hq8, T.cl_Stretch, T.na_Stretch_begin, rfl, ?_⟩
      refine ⟨_, hD', by rw [List.length_map, List.length_take]; have := co.len; show _ < 16777216; omega, fun c o hc e => by rw [upd_ne hc]; exact fr c o hc e, ?_⟩
      rw [upd_same, take_at hb]
      show _ = some (HO.lst ((bs.take i ++ [b]).map fun (b : Nat) => V.int (b : Int)))
      rw [List.map_append]; rfl
    · rintro H9 ⟨fr9, hD9⟩
      rw [List.length_map, sts8.1, List.take_length] at hD9
      have s9 : Same H8 H9 := fun b o e => fr9 b o (ne_of_none e hD) e
      refine ⟨_, rfl, fun y dy ny nyd ne2 => ?_⟩
      have s10 := same_made (x := y) (dx := dy) (C := a.c_Timeline) ny nyd
      refine ⟨y, dy, D, bs, back, rfl, upd_same, s10 _ _ hD9, fun H11 fr11 ta11 => ⟨rfl, ?_⟩⟩
      have s11 : Same H8 H11 := s9.trans (Fr1.made ny nyd fr11)
      have hx11 := s11 _ _ hx8
      refine ⟨_, rfl, x, _, dx, _, rfl, hx11, T.cl_Course, T.na_Course__timeline, by show 3 < 1000; decide, ?_⟩
      generalize hH12 : upd H11 x _ = H12
      have hx12 : H12 x = some (.ins a.c_Course dx [("_low", .int p.lo), ("_high", .int p.hi), ("_stretches", .ref ls), ("_timeline", .ref y)]) := by rw [← hH12, upd_same]; rfl
      have fr12 : Fr1 x H11 H12 := by rw [← hH12]; exact Fr1.upd
      have rm11 : Rm "_low" H11 x := ⟨_, _, _, _, hx11⟩
      have hls12 := fr12 _ _ nlx (s11 _ _ hls8)
      have sts12 : Sts a H12 p qs bs := ⟨sts8.1, fun i q b e1 e2 => ((sts8.2 i q b e1 e2).same s11).fr1 fr12 rm11 (by decide) (by decide)⟩
      have ta12 := ta11.fr1 fr12 rm11 (by decide)
      refine ⟨_, rfl, x, dx, _, rfl, hx12, rfl, by show 1 ≤ sizeLine; decide, fun am nam => ?_⟩
      have s13 : Same H12 _ := same_upd (o := .tup [.int 1]) nam
      refine ⟨x, dx, am, y, ls, _, p, [1], bs, back, qs, rfl, s13 _ _ hx12, rfl, rfl, s13 _ _ hls12, sts12.same s13, ta12.same s13, co, Th.prs_one, upd_same, fun u bs' H14 s14 ya14 rn => ?_⟩
      have ebs := rn.one rfl
      rw [ebs] at ya14
      replace ya14 := ya14.one
      have s14 := s13.trans s14
      have hx14 := s14 _ _ hx12
      refine ⟨_, rfl, x, _, dx, _, rfl, hx14, T.cl_Course, T.na_Course__heating, by show 4 < 1000; decide, ?_⟩
      generalize hH15 : upd H14 x _ = H15
      have hx15 : H15 x = some (.ins a.c_Course dx [("_low", .int p.lo), ("_high", .int p.hi), ("_stretches", .ref ls), ("_timeline", .ref y), ("_heating", .ref u)]) := by rw [← hH15, upd_same]; rfl
      have fr15 : Fr1 x H14 H15 := by rw [← hH15]; exact Fr1.upd
      have rm14 : Rm "_low" H14 x := ⟨_, _, _, _, hx14⟩
      refine k bs back H15 co ⟨dx, ls, y, u, qs, hx15, fr15 _ _ nlx (s14 _ _ hls12), sts12.1, fun i q b e1 e2 => ((sts12.2 i q b e1 e2).same s14).fr1 fr15 rm14 (by decide) (by decide), (ta12.same s14).fr1 fr15 rm14 (by decide), ya14.fr1 fr15 rm14 (by decide) (by decide)⟩ fun b o nb e => ?_
      have e7 := s7 _ _ (sm5 _ _ (fr4 b o nb e))
      have nbl : b ≠ ls := fun q => by
        rw [q] at e
        have := fr2 _ _ nlx e
        rw [nls] at this; cases this
      exact fr15 _ _ nb (s14 _ _ (fr12 _ _ nb (s11 _ _ (fr8 _ _ nbl e7))))
end
end W6

namespace W6
open PySem PySem.Spec PyProof.Rows L2 Ru StX
section
variable (a : Ad)
def spOn : Sp := fun vs H Q _ => ∃ (c : Addr) (p : Th.Par) (bs : List Nat) (back : Option Nat) (t : Nat), vs = [.ref c, .int t] ∧ CAt a H c p bs back ∧ Th.CourseOk p bs back ∧ t ≤ 1000000000000000000 ∧ ∀ H', Same H H' → Q (.bl (Th.onn p t)) H'
def spHb : Sp := fun vs H Q _ => ∃ (c : Addr) (p : Th.Par) (bs : List Nat) (back : Option Nat) (t : Nat), vs = [.ref c, .int t] ∧ CAt a H c p bs back ∧ Th.CourseOk p bs back ∧ t ≤ 1000000000000000000 ∧ ∀ H', Same H H' → Q (.int (Th.Hc p t)) H'
def spRec : Sp := fun vs H Q _ => ∃ (c : Addr) (p : Th.Par) (bs : List Nat) (back : Option Nat), vs = [.ref c] ∧ CAt a H c p bs back ∧ Th.CourseOk p bs back ∧ (∀ H', Same H H' → Th.Rec p bs back none → Q .non H') ∧
  ∀ z H' (f t : Nat), Same H H' → H z = none → H' z = some (.tup [.int f, .int t]) → Th.Rec p bs back (some (f, t)) → Q (.ref z) H'
def spShare : Sp := fun vs H Q _ => ∃ (c : Addr) (p : Th.Par) (bs : List Nat) (back : Option Nat), vs = [.ref c] ∧ CAt a H c p bs back ∧ Th.CourseOk p bs back ∧
  ∀ z H' (t b : Nat), Same H H' → H z = none → H' z = some (.tup [.int t, .int b]) → Th.Share p bs back t b → Q (.ref z) H'
def spTemp : Sp := fun vs H Q _ => ∃ (c : Addr) (p : Th.Par) (bs : List Nat) (back : Option Nat) (t : Nat), vs = [.ref c, .int t] ∧ CAt a H c p bs back ∧ Th.CourseOk p bs back ∧ t ≤ 1000000000000000000 ∧ ∀ H', Same H H' → Q (.int (Th.deg p t)) H'
def spBu : Sp := fun vs H Q _ => ∃ (c : Addr) (p : Th.Par) (bs : List Nat) (back : Option Nat) (t : Nat), vs = [.ref c, .int t] ∧ CAt a H c p bs back ∧ Th.CourseOk p bs back ∧ t ≤ 1000000000000000000 ∧ ∀ H', Same H H' → Q (.int (Th.Cn p t : Nat)) H'
def spBo : Sp := fun vs H Q _ => ∃ (c : Addr) (p : Th.Par) (bs : List Nat) (back : Option Nat) (n : Nat), vs = [.ref c, .int n] ∧ CAt a H c p bs back ∧ Th.CourseOk p bs back ∧ n ≤ 1000000000000000001 ∧ ∀ r H', Same H H' → Th.Nb p n r → Q (optV r) H'
end
section
variable {P : Program} {w : World} {K : PySem.W.Frag} {mg : Str → Option Value} {base : Heap} {a : Ad}
theorem ok_Course_on_in (T : Txt K mg a) : FnOk P w K mg base CX0 3 a.f_Course_on_in a.d_Course_on_in ["self", "tick"] (spOn a) := by
  have G_Timeline_place : FnOk P w K mg base CX0 2 a.f_Timeline_place a.d_Timeline_place ["self", "tick"] (spPlace a) := ok_Timeline_place T
  refine T.F_Course_on_in.ok sc_Course_on_in (fun vs H Q E h => ?_) (fun cdv A outer s H vs Q E hr h => ?_)
  · obtain ⟨c, p, bs, back, t, rfl, _⟩ := h
    rfl
  · obtain ⟨c, p, bs, back, t, rfl, ca, co, t18, k⟩ := h
    refine ⟨_, (pss_cons (ps_set (i := 2) sc_Course_on_in.nd rfl (Or.inl rfl) (pe_meth (pe_fld (pv 0) rfl) T.cl_Timeline T.me_Timeline_place G_Timeline_place (hr.mono (by decide)) (b_Timeline_place T) .nil pass0 (pa_cons (pv 1) pa_nil)))
      (pss_one (ps_ret (pe_fld (pe_ix ix_list (pe_fld (pv 0) rfl) (pe_ix ix_tup (pv 2) pe_int (fun _ _ => rfl)) (fun _ _ => rfl)) rfl)))), ?_⟩
    obtain ⟨dx, ls, tl, hs, qs, hc, hls, lq, st, ta, ya⟩ := id ca
    obtain ⟨dt, lt, htl, hlt⟩ := id ta
    refine ⟨_, rfl, c, _, dx, _, _, rfl, hc, T.cl_Course, T.na_Course__timeline, rfl, tl, dt, _, rfl, htl, rfl, _, rfl, tl, p, bs, back, t, rfl, ta, co, t18, fun z H1 r i t' sm nz hz pl _ => ?_⟩
    obtain ⟨b, hb, le, nx⟩ := pl.at'
    obtain ⟨q, hq, sq⟩ := sts_at ⟨lq, st⟩ hb
    obtain ⟨ds, td, d, hx, dd, hd⟩ := id sq
    refine ⟨_, rfl, c, _, dx, _, _, rfl, sm _ _ hc, T.cl_Course, T.na_Course__stretches, rfl, _, rfl, z, _, _, _, rfl, rfl, SqT.of hz, rfl, ls, _, _, _, rfl, rfl, SqL.of (sm _ _ hls), atI_nat hq, q, _, ds, _, _, rfl, sm _ _ hx, T.cl_Stretch, T.na_Stretch_on, rfl, ?_⟩
    have e := k H1 sm
    rw [pl.on co hb] at e
    exact e
theorem ok_Course_heated_before (T : Txt K mg a) : FnOk P w K mg base CX0 5 a.f_Course_heated_before a.d_Course_heated_before ["self", "tick"] (spHb a) := by
  have G_HeatingSum_sum_before : FnOk P w K mg base CX0 4 a.f_HeatingSum_sum_before a.d_HeatingSum_sum_before ["self", "tick"] (spYb a) := ok_HeatingSum_sum_before T
  refine T.F_Course_heated_before.ok sc_Course_heated_before (fun vs H Q E h => ?_) (fun cdv A outer s H vs Q E hr h => ?_)
  · obtain ⟨c, p, bs, back, t, rfl, _⟩ := h
    rfl
  · obtain ⟨c, p, bs, back, t, rfl, ca, co, t18, k⟩ := h
    refine ⟨_, (pss_one (ps_ret (pe_meth (pe_fld (pv 0) rfl) T.cl_HeatingSum T.me_HeatingSum_sum_before G_HeatingSum_sum_before (hr.mono (by decide)) (b_HeatingSum_sum_before T) .nil pass0 (pa_cons (pv 1) pa_nil)))), ?_⟩
    obtain ⟨dx, ls, tl, hs, qs, hc, hls, lq, st, ta, ya⟩ := id ca
    obtain ⟨dy, am, tly, lsy, hy, _⟩ := id ya
    exact ⟨_, rfl, c, _, dx, _, _, rfl, hc, T.cl_Course, T.na_Course__heating, rfl, hs, dy, _, rfl, hy, rfl, _, rfl, hs, p, bs, back, t, rfl, ya, co, t18, k⟩
theorem ok_Course_recurrence (T : Txt K mg a) : FnOk P w K mg base CX0 2 a.f_Course_recurrence a.d_Course_recurrence ["self"] (spRec a) := by
  have G_Stretch_level_ticks : FnOk P w K mg base CX0 1 a.f_Stretch_level_ticks a.d_Stretch_level_ticks ["self"] (spLevel a) := ok_Stretch_level_ticks T
  have G_Timeline_ticks_of_round : FnOk P w K mg base CX0 1 a.f_Timeline_ticks_of_round a.d_Timeline_ticks_of_round ["self"] (spTor a) := ok_Timeline_ticks_of_round T
  refine T.F_Course_recurrence.ok sc_Course_recurrence (fun vs H Q E h => ?_) (fun cdv A outer s H vs Q E hr h => ?_)
  · obtain ⟨c, p, bs, back, rfl, _⟩ := h
    rfl
  · obtain ⟨c, p, bs, back, rfl, ca, co, k0, k⟩ := h
    refine ⟨_, (pss_cons (ps_set (i := 1) sc_Course_recurrence.nd rfl (Or.inl rfl) (pe_ix ix_list (pe_fld (pv 0) rfl) (pe_un un_neg pe_int) (fun _ _ => rfl)))
      (pss_cons (ps_set (i := 2) sc_Course_recurrence.nd rfl (Or.inl rfl) (pe_fld (pe_fld (pv 0) rfl) rfl))
      (pss_cons (ps_if (pt_cmpR op_isN (pv 2) pe_non (nomark _)) (pss_cons (ps_set (i := 3) sc_Course_recurrence.nd rfl (Or.inl rfl) (pe_meth0 (pv 1) T.cl_Stretch T.me_Stretch_level_ticks G_Stretch_level_ticks (hr.mono (by decide)) (b_Stretch_level_ticks T) .nil pass0))
      (pss_one (ps_ret (pe_ifExp (pt_cmpR op_isN (pv 3) pe_non (nomark _)) pe_non (pe_tup (pa_cons (pe_fld (pv 1) rfl) (pa_cons (pv 3) pa_nil))))))) pss_nil)
      (pss_cons (ps_set (i := 4) sc_Course_recurrence.nd rfl (Or.inl rfl) (pe_fld (pe_ix ix_list (pe_fld (pv 0) rfl) (pv 2) (fun _ _ => rfl)) rfl))
      (pss_cons (ps_if (pt_cmpR op_gt (pv 2) pe_int (nomark _)) (pss_cons (ps_set (i := 5) sc_Course_recurrence.nd rfl (Or.inl rfl) (pe_op op_sub (pv 4) (pe_fld (pe_ix ix_list (pe_fld (pv 0) rfl) (pe_op op_sub (pv 2) pe_int) (fun _ _ => rfl)) rfl)))
      (pss_one (ps_set (i := 4) sc_Course_recurrence.nd rfl (Or.inl rfl) (pe_op op_sub (pv 4) (pe_callB (call_min2 rfl) (by rfl) T.z_min (by decide +kernel) (pa_cons (pv 5) (pa_cons (pe_op op_sub (pe_fld (pv 1) rfl) (pe_fld (pe_ix ix_list (pe_fld (pv 0) rfl) (pe_un un_neg pe_int) (fun _ _ => rfl)) rfl)) pa_nil))))))) pss_nil)
      (pss_one (ps_ret (pe_tup (pa_cons (pv 4) (pa_cons (pe_meth0 (pe_fld (pv 0) rfl) T.cl_Timeline T.me_Timeline_ticks_of_round G_Timeline_ticks_of_round (hr.mono (by decide)) (b_Timeline_ticks_of_round T) .nil pass0) pa_nil)))))))))), ?_⟩
    obtain ⟨dx, ls, tl, hs, qs, hc, hls, lq, st, ta, ya⟩ := id ca
    obtain ⟨dt, lt, htl, hlt⟩ := id ta
    have ne := co.chain.ne
    cases back with
    | none =>
      obtain ⟨_, b, hb, nv⟩ := co.fin rfl
      obtain ⟨q, hq, sq⟩ := sts_last ⟨lq, st⟩ ne hb
      obtain ⟨ds, td, d, hx, dd, hd⟩ := id sq
      refine ⟨_, rfl, c, _, dx, _, _, rfl, hc, T.cl_Course, T.na_Course__stretches, rfl, _, rfl, ls, _, _, _, rfl, rfl, SqL.of hls, hq, ?_⟩
      refine ⟨_, rfl, c, _, dx, _, _, rfl, hc, T.cl_Course, T.na_Course__timeline, rfl, tl, _, dt, _, _, rfl, htl, T.cl_Timeline, T.na_Timeline_back, rfl, ?_⟩
      refine ⟨_, rfl, rfl, _, rfl, ?_⟩
      refine ifT rfl ?_
      refine ⟨_, rfl, q, ds, _, rfl, hx, rfl, q, b, p.ch, p.g, _, _, rfl, sq, ?_⟩
      by_cases z : Th.rsum p.ch (Th.gon p.g (Th.onn p b)) = 0
      · rw [if_pos z]
        refine ⟨_, rfl, rfl, _, rfl, ?_⟩
        refine ifF rfl ?_
        refine ⟨_, rfl, q, _, ds, _, _, rfl, hx, T.cl_Stretch, T.na_Stretch_begin, rfl, _, rfl, by show 2 ≤ sizeLine; decide, fun y ny => ?_⟩
        exact k y _ b p.ch.length (same_upd ny) ny upd_same ⟨b, hb, by rw [if_pos z]⟩
      · rw [if_neg z]
        refine ⟨_, rfl, rfl, _, rfl, ?_⟩
        refine ifT rfl ?_
        exact k0 _ (fun _ _ h => h) ⟨b, hb, by rw [if_neg z]⟩
    | some kb =>
      obtain ⟨_, kl, f, l, hf, hl, stt⟩ := co.rep kb rfl
      obtain ⟨lt', pe⟩ := co.per rfl hf hl
      obtain ⟨q, hq, sq⟩ := sts_last ⟨lq, st⟩ ne hl
      obtain ⟨q2, hq2, sq2⟩ := sts_at ⟨lq, st⟩ hf
      obtain ⟨ds, td, d, hx, dd, hd⟩ := id sq
      obtain ⟨ds2, td2, d2, hx2, dd2, hd2⟩ := id sq2
      refine ⟨_, rfl, c, _, dx, _, _, rfl, hc, T.cl_Course, T.na_Course__stretches, rfl, _, rfl, ls, _, _, _, rfl, rfl, SqL.of hls, hq, ?_⟩
      refine ⟨_, rfl, c, _, dx, _, _, rfl, hc, T.cl_Course, T.na_Course__timeline, rfl, tl, _, dt, _, _, rfl, htl, T.cl_Timeline, T.na_Timeline_back, rfl, ?_⟩
      refine ⟨_, rfl, rfl, _, rfl, ?_⟩
      refine ifF rfl ?_
      refine ⟨_, rfl, c, _, dx, _, _, rfl, hc, T.cl_Course, T.na_Course__stretches, rfl, _, rfl, ls, _, _, _, rfl, rfl, SqL.of hls, atI_nat hq2, q2, _, ds2, _, _, rfl, hx2, T.cl_Stretch, T.na_Stretch_begin, rfl, ?_⟩
      have eT : (l : Int) - (f : Int) = ((l - f : Nat) : Int) := by omega
      refine ⟨_, rfl, _, _, rfl, rfl, _, rfl, ?_⟩
      cases kb with
      | zero =>
        refine ifF rfl ?_
        refine ⟨_, rfl, _, rfl, c, _, dx, _, _, rfl, hc, T.cl_Course, T.na_Course__timeline, rfl, tl, dt, _, rfl, htl, rfl, tl, bs, 0, f, l, rfl, ta, hf, hl, by show 2 ≤ sizeLine; decide, fun y ny => ?_⟩
        exact k y _ f (l - f) (same_upd ny) ny (by rw [upd_same, ← eT]) ⟨f, l, hf, hl, .inl ⟨rfl, rfl⟩⟩
      | succ k' =>
        refine ifT (dT (by omega)) ?_
        obtain ⟨e1, he1⟩ := Th.at_some (bs := bs) (i := k') (by omega)
        obtain ⟨e2, he2⟩ := Th.at_some (bs := bs) (i := bs.length - 2) (by omega)
        obtain ⟨q3, hq3, sq3⟩ := sts_at ⟨lq, st⟩ he1
        obtain ⟨q4, hq4', sq4⟩ := sts_at ⟨lq, st⟩ he2
        have hq4 : atI (qs.map V.ref) (-((2 : Nat) : Int)) = some (.ref q4) := by
          refine atI_neg ?_ (by omega) (by rw [List.length_map, lq]; omega)
          rw [List.length_map, lq]
          exact hq4'
        obtain ⟨ds3, td3, d3, hx3, dd3, hd3⟩ := id sq3
        obtain ⟨ds4, td4, d4, hx4, dd4, hd4⟩ := id sq4
        have l1 := (co.chain.2 k' e1 f he1 hf).1
        have l2 := (co.chain.2 (bs.length - 2) e2 l he2 (by rw [show bs.length - 2 + 1 = bs.length - 1 by omega]; exact hl)).1
        have ek : (((k' + 1 : Nat) : Int) - 1) = (k' : Int) := by omega
        refine ⟨_, rfl, _, rfl, c, _, dx, _, _, rfl, hc, T.cl_Course, T.na_Course__stretches, rfl, _, rfl, _, _, rfl, rfl, ls, _, _, _, rfl, rfl, SqL.of hls, by rw [ek]; exact atI_nat hq3, q3, _, ds3, _, _, rfl, hx3, T.cl_Stretch, T.na_Stretch_begin, rfl, _, _, rfl, rfl, ?_⟩
        refine ⟨_, rfl, _, rfl, _, rfl, q, _, ds, _, _, rfl, hx, T.cl_Stretch, T.na_Stretch_begin, rfl, _, rfl, c, _, dx, _, _, rfl, hc, T.cl_Course, T.na_Course__stretches, rfl, _, rfl, ls, _, _, _, rfl, rfl, SqL.of hls, hq4, q4, _, ds4, _, _, rfl, hx4, T.cl_Stretch, T.na_Stretch_begin, rfl, _, _, rfl, rfl, _, _, rfl, _, _, rfl, rfl, ?_⟩
        have eM : (f : Int) - (if (l : Int) - (e2 : Int) < (f : Int) - (e1 : Int) then (l : Int) - (e2 : Int) else (f : Int) - (e1 : Int)) = ((f - min (f - e1) (l - e2) : Nat) : Int) := by
          split <;> omega
        refine ⟨_, rfl, _, rfl, c, _, dx, _, _, rfl, hc, T.cl_Course, T.na_Course__timeline, rfl, tl, dt, _, rfl, htl, rfl, tl, bs, k' + 1, f, l, rfl, ta, hf, hl, by show 2 ≤ sizeLine; decide, fun y ny => ?_⟩
        exact k y _ (f - min (f - e1) (l - e2)) (l - f) (same_upd ny) ny (by rw [upd_same, ← eT, ← eM]) ⟨f, l, hf, hl, .inr ⟨k', e1, e2, rfl, he1, he2, rfl⟩⟩
end
end W6

namespace W6
open PySem PySem.Spec PyProof.Rows L2 Ru StX
/-- 1 if the first stretch begins with no switching -/
def unsw (p : Th.Par) : Int := if Th.onn p 0 = p.on0 then 1 else 0
section
variable (a : Ad)
def RAt (H : Hp) (z : Addr) (p : Th.Par) : Prop := ∃ (dx ww hh c : Addr) (u : Int) (bs : List Nat) (back : Option Nat), H z = some (.ins a.c_Room dx [("_weather", .ref ww), ("_heater", .ref hh), ("_start", .int p.st), ("course", .ref c), ("_unswitched", .int (unsw p))]) ∧ CAt a H c p bs back ∧ Th.CourseOk p bs back ∧ WAt a H ww p.ch ∧ HAt a H hh p.g p.lo p.hi
theorem RAt.same {a : Ad} {H H' : Hp} {z : Addr} {p : Th.Par} (h : RAt a H z p) (s : Same H H') : RAt a H' z p :=
  let ⟨dx, ww, hh, c, u, bs, back, h1, h2, h3, h4, h5⟩ := h; ⟨dx, ww, hh, c, u, bs, back, s _ _ h1, h2.same s, h3, h4.same s, h5.same s⟩
def spRi : Sp := fun vs H Q _ => ∃ (x dx ww hh : Addr) (p : Th.Par), vs = [.ref x, .ref ww, .ref hh, .int p.st, .bl p.on0] ∧ H x = some (.ins a.c_Room dx []) ∧ WAt a H ww p.ch ∧ HAt a H hh p.g p.lo p.hi ∧ p.Ok ∧ ∀ H', Fr1 x H H' → RAt a H' x p → Q .non H'
def spIs : Sp := fun vs H Q _ => ∃ (x : Addr) (p : Th.Par) (t : Nat), vs = [.ref x, .int t] ∧ RAt a H x p ∧ t ≤ 1000000000000000000 ∧ ∀ H', Same H H' → Q (.bl (Th.onn p t)) H'
def spHt : Sp := fun vs H Q _ => ∃ (x : Addr) (p : Th.Par) (t : Nat), vs = [.ref x, .int t] ∧ RAt a H x p ∧ t ≤ 1000000000000000000 ∧ ∀ H', Same H H' → Q (.int (Th.Hc p t)) H'
/-- the two long-run answers of a room -/
def spRep : Sp := fun vs H Q _ => ∃ (x : Addr) (p : Th.Par) (dx ww hh c : Addr) (u : Int) (bs : List Nat) (back : Option Nat), vs = [.ref x] ∧ H x = some (.ins a.c_Room dx [("_weather", .ref ww), ("_heater", .ref hh), ("_start", .int p.st), ("course", .ref c), ("_unswitched", .int (unsw p))]) ∧ CAt a H c p bs back ∧ Th.CourseOk p bs back ∧
  (∀ H', Same H H' → Th.Rec p bs back none → Q .non H') ∧ ∀ z H' (f t : Nat), Same H H' → H z = none → H' z = some (.tup [.int f, .int t]) → Th.Rec p bs back (some (f, t)) → Q (.ref z) H'
def spHs : Sp := fun vs H Q _ => ∃ (x : Addr) (p : Th.Par) (dx ww hh c : Addr) (u : Int) (bs : List Nat) (back : Option Nat), vs = [.ref x] ∧ H x = some (.ins a.c_Room dx [("_weather", .ref ww), ("_heater", .ref hh), ("_start", .int p.st), ("course", .ref c), ("_unswitched", .int (unsw p))]) ∧ CAt a H c p bs back ∧ Th.CourseOk p bs back ∧
  ∀ z H' (t b : Nat), Same H H' → H z = none → H' z = some (.tup [.int t, .int b]) → Th.Share p bs back t b → Q (.ref z) H'
end
section
variable {P : Program} {w : World} {K : PySem.W.Frag} {mg : Str → Option Value} {base : Heap} {a : Ad}
theorem ok_Weather_changes (T : Txt K mg a) : FnOk P w K mg base CX0 1 a.f_Weather_changes a.d_Weather_changes ["self"] (getSp a.c_Weather "_changes") := by
  refine T.F_Weather_changes.ok sc_Weather_changes (fun vs H Q E h => ?_) (fun cdv A outer s H vs Q E hr h => ?_)
  · obtain ⟨z, dx, fs, v, e, _⟩ := h
    rw [e]; rfl
  · obtain ⟨z, dx, fs, v, rfl, hz, l, q⟩ := h
    exact ⟨_, (pss_one (ps_ret (pe_fld (pv 0) rfl))), ⟨_, rfl, z, _, dx, fs, v, rfl, hz, T.cl_Weather, T.na_Weather__changes, l, q⟩⟩
theorem ok_Heater_gain (T : Txt K mg a) : FnOk P w K mg base CX0 1 a.f_Heater_gain a.d_Heater_gain ["self"] (getSp a.c_Heater "_gain") := by
  refine T.F_Heater_gain.ok sc_Heater_gain (fun vs H Q E h => ?_) (fun cdv A outer s H vs Q E hr h => ?_)
  · obtain ⟨z, dx, fs, v, e, _⟩ := h
    rw [e]; rfl
  · obtain ⟨z, dx, fs, v, rfl, hz, l, q⟩ := h
    exact ⟨_, (pss_one (ps_ret (pe_fld (pv 0) rfl))), ⟨_, rfl, z, _, dx, fs, v, rfl, hz, T.cl_Heater, T.na_Heater__gain, l, q⟩⟩
theorem ok_Heater_low (T : Txt K mg a) : FnOk P w K mg base CX0 1 a.f_Heater_low a.d_Heater_low ["self"] (getSp a.c_Heater "_low") := by
  refine T.F_Heater_low.ok sc_Heater_low (fun vs H Q E h => ?_) (fun cdv A outer s H vs Q E hr h => ?_)
  · obtain ⟨z, dx, fs, v, e, _⟩ := h
    rw [e]; rfl
  · obtain ⟨z, dx, fs, v, rfl, hz, l, q⟩ := h
    exact ⟨_, (pss_one (ps_ret (pe_fld (pv 0) rfl))), ⟨_, rfl, z, _, dx, fs, v, rfl, hz, T.cl_Heater, T.na_Heater__low, l, q⟩⟩
theorem ok_Heater_high (T : Txt K mg a) : FnOk P w K mg base CX0 1 a.f_Heater_high a.d_Heater_high ["self"] (getSp a.c_Heater "_high") := by
  refine T.F_Heater_high.ok sc_Heater_high (fun vs H Q E h => ?_) (fun cdv A outer s H vs Q E hr h => ?_)
  · obtain ⟨z, dx, fs, v, e, _⟩ := h
    rw [e]; rfl
  · obtain ⟨z, dx, fs, v, rfl, hz, l, q⟩ := h
    exact ⟨_, (pss_one (ps_ret (pe_fld (pv 0) rfl))), ⟨_, rfl, z, _, dx, fs, v, rfl, hz, T.cl_Heater, T.na_Heater__high, l, q⟩⟩
theorem ok_Room_repetition (T : Txt K mg a) : FnOk P w K mg base CX0 3 a.f_Room_repetition a.d_Room_repetition ["self"] (spRep a) := by
  have G_Course_recurrence : FnOk P w K mg base CX0 2 a.f_Course_recurrence a.d_Course_recurrence ["self"] (spRec a) := ok_Course_recurrence T
  refine T.F_Room_repetition.ok sc_Room_repetition (fun vs H Q E h => ?_) (fun cdv A outer s H vs Q E hr h => ?_)
  · obtain ⟨x, p, dx, ww, hh, c, u, bs, back, rfl, _⟩ := h
    rfl
  · obtain ⟨x, p, dx, ww, hh, c, u, bs, back, rfl, hx, ca, co, k0, k⟩ := h
    refine ⟨_, (pss_one (ps_ret (pe_meth0 (pe_fld (pv 0) rfl) T.cl_Course T.me_Course_recurrence G_Course_recurrence (hr.mono (by decide)) (b_Course_recurrence T) .nil pass0))), ?_⟩
    obtain ⟨dc, ls, tl, hs, qs, hc, hls, _⟩ := id ca
    exact ⟨_, rfl, x, _, dx, _, _, rfl, hx, T.cl_Room, T.na_Room_course, rfl, c, dc, _, rfl, hc, rfl, c, p, bs, back, rfl, ca, co, k0, k⟩
theorem ok_Room_is_on (T : Txt K mg a) : FnOk P w K mg base CX0 4 a.f_Room_is_on a.d_Room_is_on ["self", "tick"] (spIs a) := by
  have G_Course_on_in : FnOk P w K mg base CX0 3 a.f_Course_on_in a.d_Course_on_in ["self", "tick"] (spOn a) := ok_Course_on_in T
  have G_check_number : FnOk P w K mg base CX0 1 a.f_check_number a.d_check_number ["number", "least", "greatest"] spNum := ok_check_number T
  refine T.F_Room_is_on.ok sc_Room_is_on (fun vs H Q E h => ?_) (fun cdv A outer s H vs Q E hr h => ?_)
  · obtain ⟨x, p, t, rfl, _⟩ := h
    rfl
  · obtain ⟨x, p, t, rfl, ⟨dx, ww, hh, c, u, bs, back, hx, ca, co, _⟩, t18, k⟩ := h
    refine ⟨_, (pss_cons (ps_expr (pe_call G_check_number (hr.mono (by decide)) (by rfl) T.mg_check_number T.F_check_number.kp (b_check_number T) .nil pass0 (pa_cons (pv 1) (pa_cons pe_int (pa_cons (pe_glob (v := .int 1000000000000000000) rfl T.mg_MOST_TICKS.choose_spec ⟨_, rfl⟩) pa_nil)))))
      (pss_one (ps_ret (pe_meth (pe_fld (pv 0) rfl) T.cl_Course T.me_Course_on_in G_Course_on_in (hr.mono (by decide)) (b_Course_on_in T) .nil pass0 (pa_cons (pv 1) pa_nil))))), ?_⟩
    obtain ⟨dc, ls, tl, hs, qs, hc, hls, _⟩ := id ca
    exact ⟨_, rfl, _, _, _, rfl, by omega, by omega, _, rfl, x, _, dx, _, _, rfl, hx, T.cl_Room, T.na_Room_course, rfl, c, dc, _, rfl, hc, rfl, _, rfl, c, p, bs, back, t, rfl, ca, co, t18, k⟩
theorem ok_Room_heating_ticks (T : Txt K mg a) : FnOk P w K mg base CX0 6 a.f_Room_heating_ticks a.d_Room_heating_ticks ["self", "count"] (spHt a) := by
  have G_Course_heated_before : FnOk P w K mg base CX0 5 a.f_Course_heated_before a.d_Course_heated_before ["self", "tick"] (spHb a) := ok_Course_heated_before T
  have G_check_number : FnOk P w K mg base CX0 1 a.f_check_number a.d_check_number ["number", "least", "greatest"] spNum := ok_check_number T
  refine T.F_Room_heating_ticks.ok sc_Room_heating_ticks (fun vs H Q E h => ?_) (fun cdv A outer s H vs Q E hr h => ?_)
  · obtain ⟨x, p, t, rfl, _⟩ := h
    rfl
  · obtain ⟨x, p, t, rfl, ⟨dx, ww, hh, c, u, bs, back, hx, ca, co, _⟩, t18, k⟩ := h
    refine ⟨_, (pss_cons (ps_expr (pe_call G_check_number (hr.mono (by decide)) (by rfl) T.mg_check_number T.F_check_number.kp (b_check_number T) .nil pass0 (pa_cons (pv 1) (pa_cons pe_int (pa_cons (pe_glob (v := .int 1000000000000000000) rfl T.mg_MOST_TICKS.choose_spec ⟨_, rfl⟩) pa_nil)))))
      (pss_one (ps_ret (pe_meth (pe_fld (pv 0) rfl) T.cl_Course T.me_Course_heated_before G_Course_heated_before (hr.mono (by decide)) (b_Course_heated_before T) .nil pass0 (pa_cons (pv 1) pa_nil))))), ?_⟩
    obtain ⟨dc, ls, tl, hs, qs, hc, hls, _⟩ := id ca
    exact ⟨_, rfl, _, _, _, rfl, by omega, by omega, _, rfl, x, _, dx, _, _, rfl, hx, T.cl_Room, T.na_Room_course, rfl, c, dc, _, rfl, hc, rfl, _, rfl, c, p, bs, back, t, rfl, ca, co, t18, k⟩
end
end W6

namespace W6
open PySem PySem.Spec PyProof.Rows L2 Ru StX
section
variable {P : Program} {w : World} {K : PySem.W.Frag} {mg : Str → Option Value} {base : Heap} {a : Ad}
theorem CAt.fr1 {H H' : Hp} {x z : Addr} {p : Th.Par} {bs : List Nat} {back : Option Nat} (h : CAt a H z p bs back) (f : Fr1 x H H') (m : Rm "_weather" H x) : CAt a H' z p bs back := by
  obtain ⟨dx, ls, tl, hs, qs, h1, h2, h3, h4, h5, h6⟩ := h
  exact ⟨dx, ls, tl, hs, qs, f _ _ (m.ne h1 (by decide)) h1, f _ _ (m.nl h2) h2, h3, fun i q b e1 e2 => (h4 i q b e1 e2).fr1 f m (by decide) (by decide), h5.fr1 f m (by decide), h6.fr1 f m (by decide) (by decide)⟩
theorem room_kb (T : Txt K mg a) : ∃ mv : List Value, KBn K a.d_Room_init ["self", "weather", "heater", "start", "on"] 4 ["on"] (fun us ws => us ++ mv ++ ws) (fun vs zs => vs ++ [] ++ zs) :=
  FunD.kbinds0 (ps := ["self", "weather", "heater", "start", "on"]) T.F_Room_init 4 ["on"] [] (fun vs mz zs => vs ++ mz ++ zs) (by simp) (fun q h => by cases h) (fun r1 r2 r3 => (r1.append r2).append r3)
    fun D doc pm an cdv ct us mv ws l1 l2 l3 => match us, mv, ws, l1, l2, l3 with | [_, _, _, _], [], [_], _, _, _ => rfl
theorem ok_Room_init (T : Txt K mg a) : FnOk P w K mg base CX0 9 a.f_Room_init a.d_Room_init ["self", "weather", "heater", "start", "on"] (spRi a) := by
  have G_check_number : FnOk P w K mg base CX0 1 a.f_check_number a.d_check_number ["number", "least", "greatest"] spNum := ok_check_number T
  have G_Weather_changes : FnOk P w K mg base CX0 1 a.f_Weather_changes a.d_Weather_changes ["self"] (getSp a.c_Weather "_changes") := ok_Weather_changes T
  have G_Heater_gain : FnOk P w K mg base CX0 1 a.f_Heater_gain a.d_Heater_gain ["self"] (getSp a.c_Heater "_gain") := ok_Heater_gain T
  have G_Heater_low : FnOk P w K mg base CX0 1 a.f_Heater_low a.d_Heater_low ["self"] (getSp a.c_Heater "_low") := ok_Heater_low T
  have G_Heater_high : FnOk P w K mg base CX0 1 a.f_Heater_high a.d_Heater_high ["self"] (getSp a.c_Heater "_high") := ok_Heater_high T
  have G_Course_init : FnOk P w K mg base CX0 7 a.f_Course_init a.d_Course_init ["self", "changes", "gain", "low", "high", "start", "on"] (spCi a) := ok_Course_init T
  have G_Course_on_in : FnOk P w K mg base CX0 3 a.f_Course_on_in a.d_Course_on_in ["self", "tick"] (spOn a) := ok_Course_on_in T
  refine T.F_Room_init.ok sc_Room_init (fun vs H Q E h => ?_) (fun cdv A outer s H vs Q E hr h => ?_)
  · obtain ⟨x, dx, ww, hh, p, rfl, _⟩ := h
    rfl
  · obtain ⟨x, dx, ww, hh, p, rfl, hx, ⟨dw, t, hw, ht⟩, ⟨dh, hhe⟩, ok, k⟩ := h
    refine ⟨_, (pss_cons (ps_expr (pe_call G_check_number (hr.mono (by decide)) (by rfl) T.mg_check_number T.F_check_number.kp (b_check_number T) .nil pass0 (pa_cons (pv 3) (pa_cons (pe_un un_neg (pe_glob (v := .int 1000000000000) rfl T.mg_MOST_DEGREES.choose_spec ⟨_, rfl⟩)) (pa_cons (pe_glob (v := .int 1000000000000) rfl T.mg_MOST_DEGREES.choose_spec ⟨_, rfl⟩) pa_nil)))))
      (pss_cons (ps_fld (pv 0) (pv 1) rfl)
      (pss_cons (ps_fld (pv 0) (pv 2) rfl)
      (pss_cons (ps_fld (pv 0) (pv 3) rfl)
      (pss_cons (ps_fld (pv 0) (pe_make T.mk_Course G_Course_init (hr.mono (by decide)) (by rfl) T.mg_Course (b_Course_init T) .nil pass0 (pa_cons (pe_prop (pv 1) T.cl_Weather T.pr_Weather_changes G_Weather_changes (hr.mono (by decide)) (b_Weather_changes T) .nil pass0 rfl) (pa_cons (pe_prop (pv 2) T.cl_Heater T.pr_Heater_gain G_Heater_gain (hr.mono (by decide)) (b_Heater_gain T) .nil pass0 rfl) (pa_cons (pe_prop (pv 2) T.cl_Heater T.pr_Heater_low G_Heater_low (hr.mono (by decide)) (b_Heater_low T) .nil pass0 rfl) (pa_cons (pe_prop (pv 2) T.cl_Heater T.pr_Heater_high G_Heater_high (hr.mono (by decide)) (b_Heater_high T) .nil pass0 rfl) (pa_cons (pv 3) (pa_cons (pv 4) pa_nil))))))) rfl)
      (pss_one (ps_fld (pv 0) (pe_ifExp (pt_cmpR op_eq (pe_meth (pe_fld (pv 0) rfl) T.cl_Course T.me_Course_on_in G_Course_on_in (hr.mono (by decide)) (b_Course_on_in T) .nil pass0 (pa_cons pe_int pa_nil)) (pv 4) (nomark _)) pe_int pe_int) rfl))))))), ?_⟩
    have s1 := ok.st1
    have s2 := ok.st2
    refine ⟨_, rfl, _, rfl, _, _, _, rfl, by omega, by omega, ?_⟩
    have nwx : ww ≠ x := ne_of hw hx (fun z => by injection z with z1 z2 z3; cases z3)
    have nhx : hh ≠ x := ne_of hhe hx (fun z => by injection z with z1 z2 z3; cases z3)
    have ntx : t ≠ x := ne_of ht hx (fun z => nomatch z)
    refine ⟨_, rfl, _, rfl, x, _, dx, _, rfl, hx, T.cl_Room, T.na_Room__weather, by show 0 < 1000; decide, ?_⟩
    refine ⟨_, rfl, _, rfl, x, _, dx, _, rfl, upd_same, T.cl_Room, T.na_Room__heater, by show 1 < 1000; decide, ?_⟩
    refine ⟨_, rfl, _, rfl, x, _, dx, _, rfl, upd_same, T.cl_Room, T.na_Room__start, by show 2 < 1000; decide, ?_⟩
    generalize hH3 : upd (upd (upd H x _) x _) x _ = H3
    have hx3 : H3 x = some (.ins a.c_Room dx [("_weather", .ref ww), ("_heater", .ref hh), ("_start", .int p.st)]) := by rw [← hH3, upd_same]; rfl
    have fr3 : Fr1 x H H3 := by rw [← hH3]; exact (Fr1.upd.trans Fr1.upd).trans Fr1.upd
    have hw3 := fr3 _ _ nwx hw
    have ht3 := fr3 _ _ ntx ht
    have hh3 := fr3 _ _ nhx hhe
    refine ⟨_, rfl, ww, dw, _, rfl, hw3, ww, dw, _, .ref t, rfl, hw3, rfl, ?_⟩
    refine ⟨_, rfl, hh, dh, _, rfl, hh3, hh, dh, _, .int p.g, rfl, hh3, rfl, ?_⟩
    refine ⟨_, rfl, hh, dh, _, rfl, hh3, hh, dh, _, .int p.lo, rfl, hh3, rfl, ?_⟩
    refine ⟨_, rfl, hh, dh, _, rfl, hh3, hh, dh, _, .int p.hi, rfl, hh3, rfl, ?_⟩
    refine ⟨_, rfl, _, rfl, fun z dz nz nd ne => ?_⟩
    have s4 := same_made (x := z) (dx := dz) (C := a.c_Course) nz nd
    refine ⟨z, dz, t, p, rfl, upd_same, s4 _ _ ht3, ok, fun bs back H5 co ca fr5 => ⟨rfl, ?_⟩⟩
    have s5 := Fr1.made nz nd fr5
    have hx5 := s5 _ _ hx3
    refine ⟨_, rfl, x, _, dx, _, rfl, hx5, T.cl_Room, T.na_Room_course, by show 3 < 1000; decide, ?_⟩
    generalize hH6 : upd H5 x _ = H6
    have hx6 : H6 x = some (.ins a.c_Room dx [("_weather", .ref ww), ("_heater", .ref hh), ("_start", .int p.st), ("course", .ref z)]) := by rw [← hH6, upd_same]; rfl
    have fr6 : Fr1 x H5 H6 := by rw [← hH6]; exact Fr1.upd
    have ca6 := ca.fr1 fr6 ⟨_, _, _, _, hx5⟩
    have frH6 : Fr1 x H H6 := (fr3.trans (Fr1.of s5)).trans fr6
    obtain ⟨dc, ls, tl, hs, qs, hc, _⟩ := id ca6
    refine ⟨_, rfl, x, _, dx, _, _, rfl, hx6, T.cl_Room, T.na_Room_course, rfl, z, dc, _, rfl, hc, rfl, z, p, bs, back, 0, rfl, ca6, co, by omega, fun H7 sm7 => ?_⟩
    refine ⟨_, rfl, rfl, _, rfl, ?_⟩
    have hx7 := sm7 _ _ hx6
    have ca7 := ca6.same sm7
    have frf : ∀ o, Fr1 x H (upd H7 x o) := fun o => (frH6.trans (Fr1.of sm7)).trans Fr1.upd
    have fin : ∀ n : Int, n = unsw p → RAt a (upd H7 x (.ins a.c_Room dx [("_weather", .ref ww), ("_heater", .ref hh), ("_start", .int p.st), ("course", .ref z), ("_unswitched", .int n)])) x p := fun n e =>
      ⟨dx, ww, hh, z, n, bs, back, by rw [e, upd_same], ca7.fr1 Fr1.upd ⟨_, _, _, _, hx7⟩, co, ⟨dw, t, frf _ _ _ nwx hw, frf _ _ _ ntx ht⟩, ⟨dh, frf _ _ _ nhx hhe⟩⟩
    by_cases c : decide (V.bl (Th.onn p 0) = V.bl p.on0) = true
    · refine ifT c ⟨_, rfl, x, _, dx, _, rfl, hx7, T.cl_Room, T.na_Room__unswitched, by show 4 < 1000; decide, ?_⟩
      exact k _ (frf _) (fin 1 (by unfold unsw; rw [if_pos (by have := of_decide_eq_true c; injection this)]))
    · refine ifF (by simpa using c) ⟨_, rfl, x, _, dx, _, rfl, hx7, T.cl_Room, T.na_Room__unswitched, by show 4 < 1000; decide, ?_⟩
      exact k _ (frf _) (fin 0 (by unfold unsw; rw [if_neg (fun e => c (by rw [e]; exact decide_eq_true rfl))]))
end
end W6

namespace W6
open PySem PySem.Spec PyProof.Rows L2 Ru StX
section
variable (a : Ad)
def spLr : Sp := fun vs H Q _ => ∃ (tc ts : Addr) (p : Th.Par), vs = [.ref tc, .ref ts] ∧ H tc = some (.tup (p.ch.map V.int)) ∧ p.ch.length ≤ 6 ∧ p.Ok ∧ H ts = some (.tup [.int p.g, .int p.lo, .int p.hi, .int p.st, .bl p.on0]) ∧ ∀ z H', Same H H' → RAt a H' z p → Q (.ref z) H'
end
section
variable {P : Program} {w : World} {K : PySem.W.Frag} {mg : Str → Option Value} {base : Heap} {a : Ad}
end
end W6

/-! a comprehension over a range with a step; xs[::c] of a list -/
namespace L2
open PySem PySem.Spec PyProof.Rows
/-- over a range with a step -/
theorem lc_rangeC {lo c : Int} {n : Nat} {g : TG} {tt : TT} {te : TE} {vs : List Nat} {σ : St} {H1 : Hp} {D : Addr} {Qd : Hp → Prop} (Pv : Nat → Hp → Prop) (h0 : Pv 0 (upd H1 D (.lst [])))
    (hs : ∀ i H, i < n → Pv i H → g (.int (lo + (i : Nat) * c)) (wipe σ vs) H fun σ2 H2 => wipe σ2 vs = wipe σ vs ∧ tt σ2 H2 fun b H3 =>
      if b = true then te σ2 H3 fun y H4 => ∃ acc, H4 D = some (.lst acc) ∧ acc.length < sizeLine ∧ Pv (i + 1) (upd H4 D (.lst (acc ++ [y]))) else Pv (i + 1) H3) (hd : ∀ H, Pv n H → Qd H) :
    ∃ W : Nat → Nat → Hp → Prop, (∃ m, W 0 m (upd H1 D (.lst []))) ∧ ∀ i m H, W i m H →
      ((Itc lo c n).stop i H ∧ Qd H) ∨ ((Itc lo c n).go i H ∧ ∃ Nx : Hp → Prop, (∀ H', Nx H' → ∃ m', m' < m ∧ W (i + 1) m' H') ∧ ∀ x H', (Itc lo c n).yld i H x H' → g x (wipe σ vs) H' fun σ2 H2 => wipe σ2 vs = wipe σ vs ∧ tt σ2 H2 fun b H3 =>
        if b = true then te σ2 H3 fun y H4 => ∃ acc, H4 D = some (.lst acc) ∧ acc.length < sizeLine ∧ Nx (upd H4 D (.lst (acc ++ [y]))) else Nx H3) := by
  refine ⟨fun i m H => m = n - i ∧ i ≤ n ∧ Pv i H, ⟨n, by simp, Nat.zero_le _, h0⟩, ?_⟩
  rintro i m H ⟨rfl, hi, p⟩
  by_cases hlt : i < n
  · refine .inr ⟨hlt, Pv (i + 1), fun H' p' => ⟨n - (i + 1), by omega, rfl, hlt, p'⟩, fun x H' y => ?_⟩
    obtain ⟨e, y⟩ := y
    subst e y
    exact hs i _ hlt p
  · have e : i = n := by omega
    subst e
    exact .inl ⟨Nat.le_refl _, hd H p⟩
/-- every c-th -/
def everyV {α : Type} (c : Nat) (xs : List α) : List α := (List.range ((xs.length + c - 1) / c)).filterMap fun k => xs[c * k]?
theorem sliceRange_step (n c : Nat) (hc : 0 < c) : sliceRange 0 (n : Int) (c : Int) = (List.range ((n + c - 1) / c)).map (c * ·) := by
  unfold sliceRange
  have c0 : (c : Int) > 0 := by omega
  simp only [c0, if_true]
  by_cases h : (0 : Int) < n
  · simp only [h, if_true]
    have e : ((n : Int) - 0 + (c : Int) - 1) / (c : Int) = (((n + c - 1) / c : Nat) : Int) := by
      rw [show (n : Int) - 0 + (c : Int) - 1 = ((n + c - 1 : Nat) : Int) by omega]; rfl
    rw [e, Int.toNat_natCast]
    apply List.map_congr_left
    intro k _
    rw [Int.zero_add, ← Int.natCast_mul, Int.toNat_natCast]
  · have e : n = 0 := by omega
    subst e
    have : (0 + c - 1) / c = 0 := Nat.div_eq_of_lt (by omega)
    rw [this]
    simp
theorem step_bounds (n c : Nat) (hc : 0 < c) : sliceBounds none none (some (c : Int)) n = (0, (n : Int), (c : Int)) := by
  have c0 : (c : Int) > 0 := by omega
  simp only [sliceBounds, Option.getD_some, c0, if_true]
theorem step_pick (its : List Value) (c : Nat) (hc : 0 < c) : slicePick its.toArray none none (some (c : Int)) = (everyV c its).toArray := by
  unfold slicePick everyV
  rw [List.size_toArray, step_bounds _ _ hc]
  show ((sliceRange 0 (its.length : Int) (c : Int)).filterMap (its.toArray[·]?)).toArray = _
  rw [sliceRange_step _ _ hc, List.filterMap_map]
  congr 1
  have e : ((fun k => its.toArray[k]?) ∘ fun k => c * k) = fun k => its[c * k]? := by funext k; simp
  rw [e]
theorem Vals.every {xs : List V} {us : List Value} (h : Vals xs us) (c : Nat) : Vals (everyV c xs) (everyV c us) := by
  unfold everyV
  rw [h.length]
  generalize List.range ((us.length + c - 1) / c) = ks
  induction ks with
  | nil => exact .nil
  | cons k r ih =>
    rw [List.filterMap_cons, List.filterMap_cons]
    cases e : xs[c * k]? with
    | none =>
      have l : us.length ≤ c * k := by rw [← h.length]; exact List.getElem?_eq_none_iff.mp e
      rw [List.getElem?_eq_none l]
      exact ih
    | some x =>
      obtain ⟨u, hu, ru⟩ := h.get e
      rw [hu]
      exact .cons ru ih
theorem every_le {α : Type} (c : Nat) (hc : 0 < c) (xs : List α) : (everyV c xs).length ≤ xs.length := by
  unfold everyV
  refine Nat.le_trans (List.length_filterMap_le _ _) ?_
  rw [List.length_range]
  rcases Nat.eq_zero_or_pos xs.length with e | e
  · rw [e, Nat.div_eq_of_lt (by omega)]; exact Nat.le_refl _
  · rw [Nat.div_le_iff_le_mul_add_pred hc]
    have : xs.length * 1 ≤ xs.length * c := Nat.mul_le_mul_left _ hc
    rw [Nat.mul_comm c]
    omega
theorem filterMap_some {α β : Type} {f : α → Option β} {h : α → β} : ∀ {ks : List α}, (∀ k, k ∈ ks → f k = some (h k)) → ks.filterMap f = ks.map h
  | [], _ => rfl
  | k :: r, e => by
    rw [List.filterMap_cons, e k List.mem_cons_self, List.map_cons, filterMap_some fun j hj => e j (List.mem_cons_of_mem _ hj)]
theorem every_map {α : Type} (g : Nat → α) (n c : Nat) (hc : 0 < c) : everyV c ((List.range n).map g) = (List.range ((n + c - 1) / c)).map fun k => g (c * k) := by
  unfold everyV
  rw [List.length_map, List.length_range]
  refine filterMap_some fun k hk => ?_
  have hk := List.mem_range.mp hk
  have l : c * k < n := by
    have := Nat.div_mul_le_self (n + c - 1) c
    have h2 : (k + 1) * c ≤ (n + c - 1) / c * c := Nat.mul_le_mul_right _ hk
    rw [Nat.succ_mul, Nat.mul_comm k c] at h2
    omega
  rw [List.getElem?_map, List.getElem?_range l]; rfl
def tEvL (K : PySem.W.Frag) (c : Nat) (te : TE) : TE := fun σ H Q => te σ H fun x H1 => ∃ a xs, x = .ref a ∧ SqL K H1 a xs ∧ ∀ p, H1 p = none → Q (.ref p) (upd H1 p (.lst (everyV c xs)))
theorem pe_everyL {X : Cx} {e : Expr} {te : TE} {c k : Nat} {p1 p3 pos : Pos} (hc : 0 < c) (he : PE X e te) : PE X (.Subscript e (.Slice none none (some (.Constant (.int (c : Int)) k p1)) p3) pos) (tEvL X.K c te) := by
  refine ⟨fun pins s σ H Q I h => ?_⟩
  refine Subscript_ (thn (he.run pins s σ H _ I h) fun v s1 ⟨x, H1, I1, r1, q1⟩ => ?_)
  obtain ⟨a, xs, ex, hx, q⟩ := q1
  subst ex
  cases r1
  have hst : PO X (some (.Constant (.int (c : Int)) k p1)) (tPart (tC (.int (c : Int)))) := po_some pe_int
  refine wpAny_Slice (thn (po_none.run pins s1 σ H1 (fun o H2 => o = none ∧ H2 = H1) I1 ⟨rfl, rfl⟩) fun vl s2 ⟨l, H2, I2, pl, el, e2⟩ => ?_)
  subst el e2
  refine thn (po_none.run pins s2 σ H2 (fun o H3 => o = none ∧ H3 = H2) I2 ⟨rfl, rfl⟩) fun vu s3 ⟨u, H3, I3, pu, eu, e3⟩ => ?_
  subst eu e3
  refine thn (hst.run pins s3 σ H3 (fun o H4 => o = some (c : Int) ∧ H4 = H3) I3 ⟨_, rfl, rfl, rfl⟩) fun vs s4 ⟨o, H4, I4, ps, eo, e4⟩ => ?_
  subst eo e4
  have I5 : Inv X pins σ H4 { s4 with heap := s4.heap.push { cls := .type "slice", data := .fields #[vl, vu, vs] } } := I4.kept (t' := s4.toks) fun b ob q => Heap.get?_push_of_some _ q
  obtain ⟨its, r, ht, hz⟩ := I5.list hx
  have hlen := r.length
  show wpAny (model X.prog X.w) X.A (subscriptTail e (.Slice none none (some (.Constant (.int (c : Int)) k p1)) p3) (.ref a) (.ref s4.heap.objs.size)) (EP X pins σ Q) X.xe { s4 with heap := s4.heap.push { cls := .type "slice", data := .fields #[vl, vu, vs] } }
  refine tail_any (ops := [.ref a, .ref s4.heap.objs.size]) ht.isList.typeIs (PySem.slot_list_getitem.lookup) ?_ (by with_unfolding_all rfl)
  refine wpAny_getItem_list_slice ht.isList (Heap.IsSliceOf.new _ vl vu vs) pl pu ps (by intro z; injection z with z; omega) ?_ (by rw [List.size_toArray]; omega)
  rw [step_pick _ _ hc]
  refine ⟨.ref _, _, I5.laid (t' := s4.toks) (o := .lst (everyV c xs)) (fun b ob q => Heap.get?_push_of_some _ q) (Nat.le_refl _) ?_, rfl, q _ (I5.hok.fresh (Nat.le_refl _))⟩
  exact ⟨Nat.le_trans (every_le c hc xs) hz, _, 0, r.every c, Heap.get?_push_size _ rfl⟩
end L2

/-! comparisons of nested data: what is the same, whole numbers in a row -/
namespace Ru
open PySem PySem.Spec PyProof.Rows L2 LamX
mutual
theorem eqv_self : ∀ d : PyData, d.canLay0 = true → PyData.eqv d d = true
  | .none, _ => by simp [PyData.eqv]
  | .bool b, _ => by simp [PyData.eqv]
  | .int i, _ => by simp [PyData.eqv]
  | .str x, _ => by simp [PyData.eqv]
  | .list xs, h => by
    have h : PyData.canLayAll0 xs = true := by simpa [PyData.canLay0] using h
    simp only [PyData.eqv]
    exact eqvAll_self xs h
  | .tuple xs, h => by
    have h : PyData.canLayAll0 xs = true := by simpa [PyData.canLay0] using h
    simp only [PyData.eqv]
    exact eqvAll_self xs h
  | .dict kvs, h => by simp [PyData.canLay0] at h
theorem eqvAll_self : ∀ ds : List PyData, PyData.canLayAll0 ds = true → PyData.eqvAll ds ds = true
  | [], _ => by simp [PyData.eqvAll]
  | x :: xs, h => by
    simp only [PyData.canLayAll0, Bool.and_eq_true] at h
    simp only [PyData.eqvAll, Bool.and_eq_true]
    exact ⟨eqv_self x h.1, eqvAll_self xs h.2⟩
end
/-- can be compared; at most so deep -/
def Sh (n : Nat) (d : PyData) : Prop := d.canLay0 = true ∧ d.depth ≤ n
theorem canAll : ∀ {ds : List PyData}, (∀ d ∈ ds, d.canLay0 = true) → PyData.canLayAll0 ds = true
  | [], _ => by simp [PyData.canLayAll0]
  | x :: xs, h => by
    simp only [PyData.canLayAll0, Bool.and_eq_true]
    exact ⟨h x (List.mem_cons_self ..), canAll fun d m => h d (List.mem_cons_of_mem _ m)⟩
theorem depAll {n : Nat} : ∀ {ds : List PyData}, (∀ d ∈ ds, d.depth ≤ n) → PyData.depthAll ds ≤ n
  | [], _ => by simp [PyData.depthAll]
  | x :: xs, h => by
    simp only [PyData.depthAll]
    exact Nat.max_le.mpr ⟨h x (List.mem_cons_self ..), depAll fun d m => h d (List.mem_cons_of_mem _ m)⟩
theorem Sh.int {n : Nat} {i : Int} : Sh n (.int i) := ⟨by simp [PyData.canLay0], by simp [PyData.depth]⟩
theorem Sh.bool {n : Nat} {b : Bool} : Sh n (.bool b) := ⟨by simp [PyData.canLay0], by simp [PyData.depth]⟩
theorem Sh.non {n : Nat} : Sh n .none := ⟨by simp [PyData.canLay0], by simp [PyData.depth]⟩
theorem Sh.str {n : Nat} {s : Str} (h : PyData.strOk s = true) : Sh n (.str s) := ⟨by simpa [PyData.canLay0] using h, by simp [PyData.depth]⟩
theorem Sh.list {n : Nat} {ds : List PyData} (h : ∀ d ∈ ds, Sh n d) : Sh (n + 1) (.list ds) := ⟨by simp only [PyData.canLay0]; exact canAll fun d m => (h d m).1, by simp only [PyData.depth]; exact Nat.succ_le_succ (depAll fun d m => (h d m).2)⟩
theorem Sh.tup {n : Nat} {ds : List PyData} (h : ∀ d ∈ ds, Sh n d) : Sh (n + 1) (.tuple ds) := ⟨by simp only [PyData.canLay0]; exact canAll fun d m => (h d m).1, by simp only [PyData.depth]; exact Nat.succ_le_succ (depAll fun d m => (h d m).2)⟩
theorem Sh.shaped {n : Nat} {d : PyData} (h : Sh n d) (l : n ≤ 64 := by decide) : SeqAt.shaped d = true := by
  unfold SeqAt.shaped
  rw [Bool.and_eq_true]
  exact ⟨h.1, decide_eq_true (Nat.le_trans h.2 l)⟩
theorem sh_nil {n : Nat} : ∀ d ∈ ([] : List PyData), Sh n d := fun d m => by cases m
theorem sh_cons {n : Nat} {x : PyData} {xs : List PyData} (h : Sh n x) (t : ∀ d ∈ xs, Sh n d) : ∀ d ∈ x :: xs, Sh n d := fun d m => by
  rcases List.mem_cons.mp m with rfl | m
  · exact h
  · exact t d m
theorem sh_ints {n : Nat} {ns : List Int} : ∀ d ∈ ns.map PyData.int, Sh n d := fun d m => by
  obtain ⟨i, _, rfl⟩ := List.mem_map.mp m
  exact Sh.int
section
variable {K : PySem.W.Frag} {H : Hp} {x y : V} {d e : PyData} {Q : VK}
theorem neD_self (h : Dp K H x d) (h2 : Dp K H y d) (s : SeqAt.shaped d = true) (q : Q (.bl false) H) : rNeD K x y H Q :=
  ⟨d, d, h, h2, s, s, by rw [eqv_self d (by unfold SeqAt.shaped at s; exact ((Bool.and_eq_true ..).mp s).1)]; exact q⟩
theorem eqD_self (h : Dp K H x d) (h2 : Dp K H y d) (s : SeqAt.shaped d = true) (q : Q (.bl true) H) : rEqD K x y H Q :=
  ⟨d, d, h, h2, s, s, by rw [eqv_self d (by unfold SeqAt.shaped at s; exact ((Bool.and_eq_true ..).mp s).1)]; exact q⟩
theorem dp_ints : ∀ ns : List Int, DpAll K H (ns.map V.int) (ns.map PyData.int)
  | [] => .nil
  | n :: r => .cons (.int n) (dp_ints r)
theorem eqvA_ints : ∀ xs ys : List Int, PyData.eqvAll (xs.map PyData.int) (ys.map PyData.int) = decide (xs = ys)
  | [], [] => by simp [PyData.eqvAll]
  | [], y :: ys => by simp [PyData.eqvAll]
  | x :: xs, [] => by simp [PyData.eqvAll]
  | x :: xs, y :: ys => by
    rw [List.map_cons, List.map_cons, PyData.eqvAll, eqvA_ints xs ys]
    by_cases e : x = y
    · by_cases f : xs = ys
      · simp [PyData.eqv, e, f]
      · simp [PyData.eqv, e, f]
    · simp [PyData.eqv, e]
variable {p q : Addr} {ns ms : List Int}
theorem eqL_ints (h : H p = some (.lst (ns.map V.int))) (h2 : H q = some (.lst (ms.map V.int))) (k : Q (.bl (decide (ns = ms))) H) : rEqD K (.ref p) (.ref q) H Q :=
  ⟨.list (ns.map PyData.int), .list (ms.map PyData.int), .lst (SqL.of h) (dp_ints ns), .lst (SqL.of h2) (dp_ints ms), (Sh.list (n := 0) sh_ints).shaped, (Sh.list (n := 0) sh_ints).shaped, by simp only [PyData.eqv]; rw [eqvA_ints]; exact k⟩
theorem neL_ints (h : H p = some (.lst (ns.map V.int))) (h2 : H q = some (.lst (ms.map V.int))) (k : Q (.bl (!decide (ns = ms))) H) : rNeD K (.ref p) (.ref q) H Q :=
  ⟨.list (ns.map PyData.int), .list (ms.map PyData.int), .lst (SqL.of h) (dp_ints ns), .lst (SqL.of h2) (dp_ints ms), (Sh.list (n := 0) sh_ints).shaped, (Sh.list (n := 0) sh_ints).shaped, by simp only [PyData.eqv]; rw [eqvA_ints]; exact k⟩
theorem eqT_ints (h : H p = some (.tup (ns.map V.int))) (h2 : H q = some (.tup (ms.map V.int))) (k : Q (.bl (decide (ns = ms))) H) : rEqD K (.ref p) (.ref q) H Q :=
  ⟨.tuple (ns.map PyData.int), .tuple (ms.map PyData.int), .tup (SqT.of h) (dp_ints ns), .tup (SqT.of h2) (dp_ints ms), (Sh.tup (n := 0) sh_ints).shaped, (Sh.tup (n := 0) sh_ints).shaped, by simp only [PyData.eqv]; rw [eqvA_ints]; exact k⟩
theorem neT_ints (h : H p = some (.tup (ns.map V.int))) (h2 : H q = some (.tup (ms.map V.int))) (k : Q (.bl (!decide (ns = ms))) H) : rNeD K (.ref p) (.ref q) H Q :=
  ⟨.tuple (ns.map PyData.int), .tuple (ms.map PyData.int), .tup (SqT.of h) (dp_ints ns), .tup (SqT.of h2) (dp_ints ms), (Sh.tup (n := 0) sh_ints).shaped, (Sh.tup (n := 0) sh_ints).shaped, by simp only [PyData.eqv]; rw [eqvA_ints]; exact k⟩
end
end Ru

set_option maxHeartbeats 4000000
/-! a != b of instances of a class with its own __eq__; t * 1; max of a tuple of ints -/
namespace Ru
open PySem PySem.Spec PyProof.Rows L2 StX
section
variable {X : Cx} {CX : CXT} {k : Nat} {f C : Addr} {fd : FuncData} {ps : List Str} {sp : Sp} {E : XK}
/-- what the class says of == and != -/
structure NeC (K : PySem.W.Frag) (C f : Addr) : Prop where
  ne : PySem.W.findIn K (.ref C) "__ne__" = some (some (.builtin "object.__ne__"))
  eq : PySem.W.findIn K (.ref C) "__eq__" = some (some (.ref f))
  fn : PySem.W.isFn K (.ref f) = true
  mks : PySem.W.makesIn K C = true
def rOwnN (C : Addr) (sp : Sp) (E : XK) : R2 := fun x y H Q => ∃ a dx fs b dy gs, x = .ref a ∧ y = .ref b ∧ H a = some (.ins C dx fs) ∧ H b = some (.ins C dy gs) ∧ sp [.ref a, .ref b] H (fun v H' => ∃ c, v = .bl c ∧ Q (.bl (!c)) H') E
theorem op_ownNe (mt : NeC X.K C f) (F : FnOk X.prog X.w X.K X.mg X.base CX k f fd ps sp) (hb : Binds X.K fd ps []) (hr : Room (k + 1) X.A) (hx : Passes CX X E) : OpR X (compareOp .NotEq) (rOwnN C sp E) := by
  intro pins s σ H x y v u Q I rx ry h
  obtain ⟨a, dx, fs, b, dy, gs, rfl, rfl, ea, eb, q⟩ := h
  obtain rfl : v = Value.ref a := rx
  obtain rfl : u = Value.ref b := ry
  obtain ⟨mA, J, _⟩ := ins_get I.hok ea
  obtain ⟨mB, J', _⟩ := ins_get I.hok eb
  obtain ⟨od, J, _⟩ := J.look
  obtain ⟨od', J', _⟩ := J'.look
  have X0 := I.kIn
  have hu : X.A.units + 1 < cLine := by
    have := hr.in1.units0
    exact this
  have run : codeAny (model X.prog X.w) X.A.in1 (.call (.ref f) ⟨[.ref a, .ref b], []⟩) (CR CX X.stack X.prog X.w H s (fun v H' => ∃ c, v = .bl c ∧ Q (.bl (!c)) H') E) s := by
    refine F.run X.A.in1 X.stack s H ⟨[.ref a, .ref b], []⟩ [.ref a, .ref b] [.ref a, .ref b] _ E hr.in1 I.env0.in1 ?_ (.cons rfl (.cons rfl .nil)) q
    have e := F.len _ _ _ _ q
    have z := hb s [.ref a, .ref b] X0 (by simpa using e)
    simpa using z
  have top : PySem.W.Looks (model X.prog X.w) s.heap (isInstance (.ref a) (.type "object")) true := J.type.andThen (PySem.W.makes_of X0 mt.mks).top
  have hu1 : X.A.in1.units < cLine := hr.in1.units0
  have hcall : wpAny (model X.prog X.w) X.A.in1 (call (.ref f) (.ref a :: [.ref b])) (fun v s' => ∃ c, v = .bool c ∧ EP X pins σ Q (.bool (!c)) s') X.xe s := by
    refine wpAny_call (codeAny_mono run fun r s' hq => ?_)
    cases r with
    | error e => exact hx pins σ H s e s' I hq
    | ok fl =>
      cases fl with
      | ret u =>
        obtain ⟨v, H', I3, rv, c, rfl, q3⟩ := I.after hq
        obtain rfl : u = Value.bool c := rv
        exact ⟨c, rfl, .bl (!c), H', I3, rfl, q3⟩
      | next => exact False.elim hq
      | brk => exact False.elim hq
      | cont => exact False.elim hq
  have body : wpAny (model X.prog X.w) X.A (tryCompare (.ref a) "__ne__" (.ref b)) (fun r s' => ∃ v, r = some v ∧ EP X pins σ Q v s') X.xe s := by
    unfold tryCompare callSpecialIfBound? bindSpecialIfBound?
    refine wpAny_bind (wpAny_holding (wpAny_bind (wpAny_bind (wpAny_bind (J.type.here ((PySem.W.looks_findIn X0 mt.ne).here ?_))))))
    simp only [PySem.F.cmp_object.ne.bind]
    have two : wpAny (model X.prog X.w) X.A (call (.builtin "object.__ne__") [.ref a, .ref b]) (fun v s' => ∃ c, v = .bool c ∧ EP X pins σ Q v s') X.xe s := by
      refine wpAny_call (codeAny_call_builtin PySem.F.cmp_object.ne.plain PySem.F.cmpEntry_ne (PySem.W.check_slot PySem.F.cmpKind_ne PySem.F.cmpSplit_ne top (PySem.F.cmpArgs_ne _ _) ?_))
      unfold Builtin.«object.__ne__»
      repeat (first
        | with_reducible refine wpAny_cRoomFor (A := X.A.in1) hu1 ?_
        | (refine wpAny_bind (m := callSpecialIfBound? (.ref a) (PySem.Str.ofString "__eq__") [.ref b])
            (PySem.W.ifBound_K X0 J mt.eq mt.fn (wpAny_mono hcall (fun r s' hr => by
              obtain ⟨c, rfl, hq⟩ := hr
              have hq2 : ∃ c', Value.bool (!c) = .bool c' ∧ EP X pins σ Q (.bool (!c)) s' := ⟨_, rfl, hq⟩
              repeat (first | exact hq2 | exact wpAny_pure hq2 | exact wpAny_truthy_bool hq2 | (refine wpAny_bind (m := truthy (.bool _)) (wpAny_truthy_bool ?_)) | wp_step)) fun _ _ e => e)))
        | wp_step)
    have fin : wpAny (model X.prog X.w) X.A (call (.builtin "object.__ne__") ([.ref a] ++ [.ref b]) >>= fun v => pure (some v)) (fun r s' => wpAny (model X.prog X.w) X.A (match r with | some .notImplemented | none => pure none | some v => pure (some v)) (fun r s' => ∃ v, r = some v ∧ EP X pins σ Q v s') X.xe s') X.xe s := by
      refine wpAny_bind (wpAny_mono two (fun v s' h' => ?_) fun _ _ h' => h')
      obtain ⟨c, rfl, e⟩ := h'
      exact wpAny_pure (wpAny_pure ⟨_, rfl, e⟩)
    refine wpAny_bind (wpAny_askSetting (wpAny_ite ?_))
    split
    · exact wpAny_bind (wpAny_pure (wpAny_pure fin))
    · exact wpAny_tryCatch (wpAny_bind (wpAny_pure (wpAny_pure fin)))
  show wpAny (model X.prog X.w) X.A (richCompare .NotEq (.ref a) (.ref b)) (EP X pins σ Q) X.xe s
  unfold richCompare
  simp only [oneThing_ref]
  refine wpAny_holding (wpAny_bind (wpAny_cRoomFor (Nat.lt_of_succ_lt hu) ?_))
  refine wpAny_bind (J.type.here (wpAny_bind (J'.type.here ?_)))
  rw [show (Value.ref C != Value.ref C) = false from by simp]
  simp only [Bool.false_eq_true, if_false]
  refine wpAny_bind (wpAny_pure ?_)
  simp only [Bool.false_eq_true, if_false]
  refine wpAny_bind (wpAny_mono body (fun r s' h' => ?_) fun _ _ h' => h')
  obtain ⟨v, rfl, e⟩ := h'
  exact wpAny_pure e
/-- t * 1 is t -/
theorem tuple_mul1 (l : Addr) (items : Array Value) (n : Nat) (dd : Option Addr) (sl : Array (Option Value)) (u : Tok) :
    Meets (Builtin.«tuple.__mul__» ⟨[.ref l, .int 1 u], []⟩) (fun _ R s => s.heap.get? l = some { cls := .type "tuple", dict := dd, data := .seq items n, slots := sl } ∧ R (.ok (.ret (Value.ref l))) s) :=
  .of_wp fun prog w A R s h => by
    obtain ⟨hp, g, d, tk, os⟩ := s
    obtain ⟨hl, h⟩ := h
    have f1 := AutoSeq1.idx_int
    wp_walk using wpAny_loadPart' hl
    repeat (first
      | (refine wpAny_ite_false (decide_eq_false (by decide)) ?_; wp_walk using wpAny_loadPart' hl)
      | (refine wpAny_ite_true (decide_eq_true (by simp)) ?_; wp_walk using wpAny_loadPart' hl))
    exact ⟨_, rfl, h⟩
def rRepA (K : PySem.W.Frag) : R2 := fun x y H Q => rRepT K x y H Q ∨ ∃ l xs, x = .ref l ∧ y = .int 1 ∧ SqT K H l xs ∧ Q (.ref l) H
theorem op_repA : OpR X (binaryOp .Mult) (rRepA X.K) := by
  intro pins s σ H x y v u Q I rx ry h
  rcases h with h | ⟨l, xs, rfl, rfl, hT, q⟩
  · exact op_repT pins s σ H x y v u Q I rx ry h
  cases rx
  obtain ⟨t, rfl⟩ := ry
  obtain ⟨its, r, ⟨⟨cls, dd, data, sl⟩, ho, hc, n, hd⟩, hs⟩ := I.tuple hT
  simp only at hc hd
  subst hc hd
  refine wpAny_binaryOp_repeat_ref (T := "tuple") (U := "int") (by decide) ⟨_, ho, rfl⟩ (fun s' => typeIs_int s' 1 t) noFill_tuple_mul F.fills_int_mul F.slot_int_rmul repeat_tuple F.slot_int_index.lookup
    (call_meets F.slot_int_rmul (typeIs_int s 1 t) F.entry_int_rmul (F.args_int_rmul_2 _ _) (int_rmul_tuple 1 t l its.toArray n dd sl)
      ⟨ho, rfl, ⟨_, ho, rfl⟩, call_meets F.slot_tuple_mul ⟨_, ho, rfl⟩ F.entry_tuple_mul (F.args_tuple_mul_2 _ _) (tuple_mul1 l its.toArray n dd sl t) ⟨ho, ?_⟩⟩)
  exact ⟨.ref l, H, I, rfl, q⟩
/-- max(t), t a tuple of ints -/
def rMaxT (K : PySem.W.Frag) : List V → Hp → VK → Prop := fun vs H Q => ∃ (a : Addr) (ns : List Int), vs = [V.ref a] ∧ SqT K H a (ns.map V.int) ∧ 0 < ns.length ∧ ∀ m, m ∈ ns → (∀ y, y ∈ ns → y ≤ m) → Q (.int m) H
theorem fold_max : ∀ (r : List Int) (n : Int), (r.foldl max n = n ∨ r.foldl max n ∈ r) ∧ n ≤ r.foldl max n ∧ ∀ y ∈ r, y ≤ r.foldl max n
  | [], n => ⟨.inl rfl, Int.le_refl _, fun y hy => nomatch hy⟩
  | k :: r, n => by
    obtain ⟨a, b, c⟩ := fold_max r (max n k)
    rw [List.foldl_cons]
    refine ⟨?_, by omega, ?_⟩
    · rcases a with a | a
      · rw [a]
        by_cases q : k ≤ n
        · left; omega
        · right; rw [show max n k = k by omega]; exact List.mem_cons_self
      · exact .inr (List.mem_cons_of_mem _ a)
    · intro y hy
      rcases List.mem_cons.mp hy with rfl | hy
      · omega
      · exact c y hy
theorem cr_maxT (hc : X.calm = true) (hu : X.A.units + 1 < cLine) : CallR X (.builtin "max") (rMaxT X.K) := fun pins s σ H vs us Q I r h => by
  obtain ⟨p, ns, rfl, hs, ne, g⟩ := h
  obtain ⟨its, rv, hl, _⟩ := I.tuple hs
  obtain rfl := Vals.ref1 r
  obtain ⟨as, ra⟩ := reads_ints (h := s.heap) rv.ints
  cases ns with
  | nil => exact absurd ne (Nat.lt_irrefl 0)
  | cons n r =>
    refine PySem.W.max_tuple_data (x := .int n) (xs := r.map .int) (I.ok.hd hc) hl (by simpa using ra) (alike_ints (n :: r)) (by rw [show (PyData.int n :: r.map .int) = (n :: r).map PyData.int from rfl, depth_ints]; omega) fun i v h' tk bs hv rd hk => ?_
    rw [PySem.W.maxD_ints] at rd
    generalize em : r.foldl max n = m at rd
    have fm := fold_max r n
    rw [em] at fm
    cases rd with
    | int _ t =>
      refine ⟨.int m, H, I.kept hk, ⟨t, rfl⟩, g m ?_ fun y hy => ?_⟩
      · rcases fm.1 with q | q
        · rw [q]; exact List.mem_cons_self
        · exact List.mem_cons_of_mem _ q
      · rcases List.mem_cons.mp hy with rfl | hy
        · exact fm.2.1
        · exact fm.2.2 y hy
end
end Ru

set_option maxHeartbeats 4000000
/-! o[i] by the class's own __getitem__, o(i) by its own __call__ -/
namespace Ru
open PySem PySem.Spec PyProof.Rows L2 StX
section
variable {X : Cx} {CX : CXT} {k i : Nat} {f C : Addr} {fd : FuncData} {ps : List Str} {sp : Sp} {E : XK} {x : Str} {a b e : Expr} {es : List Expr} {ta tb : TE} {t : TA} {p pos : Pos}
/-- o[i], o an instance of C -/
def rOwnIx (C : Addr) (sp : Sp) (E : XK) : R2 := fun x y H Q => ∃ o dx fs, x = .ref o ∧ H o = some (.ins C dx fs) ∧ sp [.ref o, y] H Q E
theorem run_fn1 {pins : List (Addr × Obj)} {σ : L2.St} {H : Hp} {s : Shared} {Q : VK} {us : List Value} {vs : List V} (F : FnOk X.prog X.w X.K X.mg X.base CX k f fd ps sp) (hr : Room (k + 1) X.A) (hb : Binds X.K fd ps []) (hx : Passes CX X E)
    (I : Inv X pins σ H s) (r : Vals vs us) (h : sp vs H Q E) : wpAny (model X.prog X.w) X.A.in1 (call (.ref f) us) (EP X pins σ Q) X.xe s := by
  have hl : us.length = ps.length := by rw [← r.length]; exact F.len _ _ _ _ h
  have z := hb s us I.kIn (by rw [List.append_nil]; exact hl)
  rw [List.append_nil] at z
  refine wpAny_call (codeAny_mono (F.run X.A.in1 X.stack s H ⟨us, []⟩ us vs Q E hr.in1 I.env0.in1 z r h) fun r s' hq => ?_)
  cases r with
  | error e => exact hx pins σ H s e s' I hq
  | ok fl =>
    cases fl with
    | ret u => exact I.after hq
    | next => exact False.elim hq
    | brk => exact False.elim hq
    | cont => exact False.elim hq
theorem pe_ixOwn (mt : Meth X.K C "__getitem__" f) (hfn : PySem.W.fnIn X.K f = true) (F : FnOk X.prog X.w X.K X.mg X.base CX k f fd ps sp) (hb0 : Binds X.K fd ps []) (hr : Room (k + 1) X.A) (hx : Passes CX X E) (ha : PE X a ta) (hb : PE X b tb)
    (hs : ∀ v u : Value, subscripted b true v u = runValue (.builtin "lifetime.subscript" ⟨[v, u], []⟩) := by intro _ _; rfl) : PE X (.Subscript a b pos) (tOp (rOwnIx C sp E) ta tb) := by
  refine ⟨fun pins s σ H Q I h => ?_⟩
  refine Subscript_ (binT ha hb I h fun v u s2 xx yy H2 I2 rx ry q => ?_)
  obtain ⟨o, dx, fs, rfl, ho, hsp⟩ := q
  obtain rfl : v = Value.ref o := rx
  obtain ⟨mA, J, _⟩ := ins_get I2.hok ho
  obtain ⟨od, J, _⟩ := J.look
  obtain ⟨m, hF⟩ := I2.fr
  exact PySem.W.sub_K hF I2.ok.mod.kin J mt.at_ hfn mt.fn (run_fn1 (us := [.ref o, u]) (vs := [.ref o, yy]) F hr hb0 hx I2 (.cons rfl (.cons ry .nil)) hsp) (hs _ _)
/-- a call whose callee is a plain instance when the arguments are there -/
theorem callWith_inst {M : Model} {A : Around} {W : Value → Shared → Prop} {sq : Shared} {en : Env} {o : Addr} {Qz : Value → Shared → Prop}
    (h : wpAny M A (spliced (backTo pos (starEach (e :: es) en))) (fun vs sz => (∃ (K : PySem.W.Frag) (C : Addr) (ox : Obj) (od : Option Obj), PySem.W.InstAt sz.heap o ox C od ∧ ox.data = .plain) ∧ wpAny M A (call (.ref o) vs) Qz W sz) W sq)
    (he : starEach (e :: es) en = (false, eval e en) :: starEach es en) (hpl : (backTo pos (starEach es en)).any (·.1) = false) :
    wpAny M A (callWith pos (.ref o) [] (backTo pos (starEach (e :: es) en)) []) Qz W sq := by
  have hp : ((backTo pos (starEach (e :: es) en)).any (·.1) || ([] : List (Option Str × Sem Value)).any (·.1.isNone)) = false := by
    rw [he]
    show ((false || (backTo pos (starEach es en)).any (·.1)) || false) = false
    rw [hpl]; rfl
  have ev : wpAny M A (evalArgs (.ref o) true (backTo pos (starEach (e :: es) en)) []) (fun r sz => (∃ (K : PySem.W.Frag) (C : Addr) (ox : Obj) (od : Option Obj), PySem.W.InstAt sz.heap o ox C od ∧ ox.data = .plain) ∧ wpAny M A (call (.ref o) r.pos r.kw) Qz W sz) W sq := by
    rw [he] at h ⊢
    exact Calls.evalArgs_plain h
  unfold callWith
  refine wpAny_bind (wpAny_holding (wpAny_mono ev (fun r sz hz => ?_) fun _ _ z => z))
  obtain ⟨⟨K, C, ox, od, J, hd⟩, go⟩ := hz
  refine wpAny_bind (wpAny_standAt ?_)
  simp only [hp]
  refine wpAny_bind ((PySem.W.kco_keeper (M := M) J hd).here ?_)
  exact wpAny_bind (wpAny_mono (wpAny_operateT go) (fun v sv hv => wpAny_bind (wpAny_holding (wpAny_point (wpAny_pure hv)))) fun _ _ z => z)
/-- x(e, ..), x a name of the def that holds an instance of C -/
def tCallO (C : Addr) (i : Nat) (sp : Sp) (E : XK) (t : TA) : TE := fun σ H Q => ∃ o, σ[i]? = some (some (.ref o)) ∧ t σ H fun vs H1 => ∃ dx fs, H1 o = some (.ins C dx fs) ∧ sp (.ref o :: vs) H1 Q E
theorem pe_callO (mt : Meth X.K C "__call__" f) (hfn : PySem.W.fnIn X.K f = true) (F : FnOk X.prog X.w X.K X.mg X.base CX k f fd ps sp) (hb0 : Binds X.K fd ps []) (hr : Room (k + 1) X.A) (hx : Passes CX X E) (hN : X.N[i]? = some x) (hv : Vis X.env.scope x) (ha : PA X (e :: es) t)
    (hdb : (x == ("__debug__" : Str)) = false := by decide) (hcd : (x == ("__classdict__" : Str)) = false := by decide)
    (he : starEach (e :: es) X.env = (false, eval e X.env) :: starEach es X.env := by rfl) (hpl : (backTo pos (starEach es X.env)).any (·.1) = false := by rfl) : PE X (.Call (.Name x p) (e :: es) [] pos) (tCallO C i sp E t) := by
  refine ⟨fun pins s σ H Q I h => ?_⟩
  obtain ⟨o, hs, ht⟩ := h
  refine wpAny_Call_Name_kw (thn ((pe_var (pos := p) hN hv hdb hcd).run pins s σ H (fun v H1 => v = .ref o ∧ H1 = H) I ⟨.ref o, hs, rfl, rfl⟩) fun u s1 ⟨v, H1, I1, r1, q1⟩ => ?_)
  obtain ⟨rfl, rfl⟩ := q1
  cases r1
  refine callWith_inst (thn (ha.run pos pins s1 σ _ _ I1 ht) fun us s2 ⟨vs, H2, I2, r, dx, fs, ho, hsp⟩ => ?_) he hpl
  obtain ⟨mA, J, _⟩ := ins_get I2.hok ho
  obtain ⟨od, J, _⟩ := J.look
  refine ⟨⟨X.K, C, _, _, J, rfl⟩, ?_⟩
  have r2 : Vals (V.ref o :: vs) (Value.ref o :: us) := .cons rfl r
  have hl : (Value.ref o :: us).length = ps.length := by rw [← r2.length]; exact F.len _ _ _ _ hsp
  have z := hb0 s2 (Value.ref o :: us) I2.kIn (by rw [List.append_nil]; exact hl)
  rw [List.append_nil] at z
  refine wpAny_call (PySem.W.kco_code I2.kIn J rfl mt.at_ mt.fn hfn (codeAny_mono (F.run X.A X.stack s2 H2 ⟨Value.ref o :: us, []⟩ (Value.ref o :: us) (V.ref o :: vs) Q E (hr.mono (Nat.le_succ _)) I2.env0 z r2 hsp) fun rr s' hq => ?_))
  cases rr with
  | error er => exact hx pins σ H2 s2 er s' I2 hq
  | ok fl =>
    cases fl with
    | ret u => exact I2.after hq
    | next => exact False.elim hq
    | brk => exact False.elim hq
    | cont => exact False.elim hq
end
end Ru

set_option maxHeartbeats 4000000
/-! a def that gets a lambda, and calls it in a lambda of its own -/
namespace Ru
open PySem PySem.Spec PyProof.Rows L2 LamX
/-- what is known of a lambda's body where more is known of the heap at its call -/
structure LamBP (X : Cx) (Pr : Hp → Heap → Prop) (k : Nat) (params : Arguments) (body : Expr) (scope : Scope) (ds : List V) (t : XK → TE) : Prop where
  L : LamS2 X.N X.env.scope scope
  bnd : LamBnd params body scope ds
  pe : ∀ (A : Around) (outer : List Env) (s : Shared) (H : Hp) (E : XK) (f c' : Addr), Pr H s.heap → Room k (A.deeper (lamEnv X scope s.heap.objs.size f c')) → PE (lamCx X A outer s H E scope f c') body (t E)
/-- what a call leaves alone -/
def Stable (Pr : Hp → Heap → Prop) : Prop := ∀ (fs : List Addr) (H H' : Hp) (h h' : Heap), Un fs [] H H' h h' → Pr H h → Pr H' h'
theorem CellsAt.stable {X : Cx} {σ : L2.St} : Stable (CellsAt X σ) := fun _ _ _ _ _ un c => c.un un fun _ _ _ z => nomatch z
theorem lam_runP {X : Cx} {Pr : Hp → Heap → Prop} {A : Around} {outer : List Env} {s : Shared} {H : Hp} {σ : L2.St} {f : Addr} {params : Arguments} {body : Expr} {scope : Scope} {ds : List V} {t : XK → TE} {k : Nat} {E : XK} {Q : VK}
    (e0 : Env0 X.prog X.w X.K X.mg X.base A outer s H) (C : CellsAt X σ H s.heap) (hP : Pr H s.heap) (la : LamAt X H f params body scope ds) (B : LamBP X Pr k params body scope ds t) (hr : Room (k + 1) A) (h : t E σ H Q) :
    codeAny (model X.prog X.w) A (.call (.ref f) ⟨[], []⟩) (CR (L2.CX X.prog X.w) outer X.prog X.w H s Q E) s := by
  obtain ⟨c', dV, hf, hc, hd⟩ := la
  obtain ⟨⟨doc, pm, ctv, lam⟩, _, _⟩ := e0.hok f _ hf
  obtain ⟨⟨oc, vs, tc, hoc, hdc, hvc⟩, _, _⟩ := e0.hok c' _ hc
  have lim : s.heap.NoLimit := e0.mod.nolimit.keeps fun b o e => (e0.bs b o e).1
  have hd' : (ds = [] ∧ dV = .none) ∨ (ds ≠ [] ∧ ∃ (T : Addr) (o : Obj) (its : List Value) (n : Nat), dV = .ref T ∧ s.heap.get? T = some o ∧ o.data = .seq its.toArray n ∧ Vals ds its) := by
    rcases hd with z | ⟨z0, T, z1, z2⟩
    · exact .inl z
    · obtain ⟨_, its, r, o, ho, _, n, hn⟩ := e0.hok T _ z2
      exact .inr ⟨z0, T, o, its, n, z1, ho, hn, r⟩
  obtain ⟨binds, hb, hloc⟩ := B.bnd (X.env.qual ++ "<lambda>") (cloFrom X.env.cells scope.names []) doc pm (.ref c') ctv dV s hd'
  refine PySem.W.kla_callFunE hr.depth lam rfl B.L.co B.L.gen rfl ⟨c', oc, vs, tc, rfl, hoc, hdc, hvc⟩ (hb _ _ _ _ ?_)
  refine wpAny_newFunctionEnv (fun y hy => (B.L.own y hy).1) hloc (fun hB nsB sb => ⟨lim.fresh _ sb, ?_⟩) B.L.kind
  show codeAny _ _ (.expr body (lamEnv X scope s.heap.objs.size f c')) _ _
  have kp : ∀ b o, s.heap.get? b = some o → hB.get? b = some o := fun b o e => sb.extBut b o (Nat.ne_of_lt (Heap.lt_size e)) (Heap.get?_push_of_some _ e)
  have J := lam_start3 (f := f) (c' := c') (E := E) (tk := s.toks + binds.length) C B.L e0 hr.hd nsB kp
  refine PySem.W.kla_codeExpr (wpAny_mono ((B.pe _ _ s H E f c' hP (hr.deeper _)).run [] _ _ H Q J h) (fun v sx hq => ?_) fun e sx hq => hq)
  obtain ⟨vv, Hx, Jx, rv, q⟩ := hq
  exact ⟨vv, Hx, Jx.os, Jx.bare, Jx.base, Jx.hok, rv, q⟩
section
variable {X : Cx} {Pr : Hp → Heap → Prop}
theorem pe_act2P {sg : Scope} {g : Addr} {cdg : Value} {Ng : List Str} {qg a : Str} {s : Shared} {H : Hp} {σ : L2.St} {f : Addr} {params : Arguments} {body : Expr} {scope : Scope} {ds : List V} {k : Nat} {pn : List (Addr × Obj)} {xe : Value → Shared → Prop} {W : WX} {t : XK → TE} {pa pc : Pos}
    (hS : Stable Pr) (C : CellsAt X σ H s.heap) (hP : Pr H s.heap) (la : LamAt X H f params body scope ds) (B : LamBP X Pr k params body scope ds t)
    (tk : Takes ((cxOf C8.CX0 X.prog X.w X.K X.mg X.base Ng qg sg g cdg X.A X.stack s H C8.E0).tr pn xe) W) (hr : Room (k + 1) (X.A.deeper (envOfC qg sg s.heap.objs.size g cdg)))
    (hN : Ng[0]? = some a) (hv : Vis sg a) (hd : (a == ("__debug__" : Str)) = false) (hcd : (a == ("__classdict__" : Str)) = false) :
    PE ((cxOf C8.CX0 X.prog X.w X.K X.mg X.base Ng qg sg g cdg X.A X.stack s H C8.E0).tr pn xe) (.Call (.Name a pa) [] [] pc) (tAct2 f H (fun Ez Hz Q => t Ez σ Hz Q) W) := by
  refine ⟨fun pz sz σz Hz Q Iz h => ?_⟩
  obtain ⟨hs, sm, Ez, hW, ht⟩ := h
  refine wpAny_Call_Name_kw (thn ((pe_var (pos := pa) (i := 0) hN hv hd hcd).run pz sz σz Hz (fun v Hy => v = .ref f ∧ Hy = Hz) Iz ⟨.ref f, hs, rfl, rfl⟩) fun u sy ⟨v, Hy, Iy, ry, qy⟩ => ?_)
  obtain ⟨rfl, rfl⟩ := qy
  obtain rfl : u = Value.ref f := ry
  have la' := la.same sm
  obtain ⟨c', dV, hf, hc, hdd⟩ := id la'
  obtain ⟨⟨doc, pm, ctv, lam⟩, _, _⟩ := Iy.hok f _ hf
  refine PySem.W.callWith_F0 ⟨_, _, _, _, lam⟩ ?_
  have un : Un (frs X.stack) [] H Hy s.heap sy.heap := Iy.base
  have run : codeAny (model X.prog X.w) (X.A.deeper (envOfC qg sg s.heap.objs.size g cdg)) (.call (.ref f) ⟨[], []⟩)
      (CR (L2.CX X.prog X.w) (envOfC qg sg s.heap.objs.size g cdg :: X.stack) X.prog X.w Hy sy Q Ez) sy :=
    lam_runP (X := X) Iy.env0 (C.un un fun _ _ _ z => nomatch z) (hS _ _ _ _ _ un hP) la' B hr ht
  refine wpAny_call (codeAny_mono run fun r sx hq => ?_)
  cases r with
  | error e => exact tk e sx (XE.of_call Iy (fun cls d Hx hE => hW cls d Hx hE) hq)
  | ok fl =>
    cases fl with
    | ret u => exact Iy.after hq
    | next => exact False.elim hq
    | brk => exact False.elim hq
    | cont => exact False.elim hq
theorem give_runP {TT : (XK → Hp → VK → Prop) → Hp → VK → Prop} {x a : Str} {g : Addr} {k : Nat} {bg : List Stmt} {sg : Scope} {Ng : List Str} {params : Arguments} {body : Expr} {scope : Scope} {ds : List V} {t : XK → TE} {s : Shared} {H : Hp} {σ : L2.St} {f : Addr} {Q : VK}
    (hS : Stable Pr) (G : GiveF X Ng x sg g bg a TT) (e0 : Env0 X.prog X.w X.K X.mg X.base X.A X.stack s H) (C : CellsAt X σ H s.heap) (hP : Pr H s.heap) (hr : Room (k + 2) X.A) (h9 : 9 ≤ k + 1) (la : LamAt X H f params body scope ds) (B : LamBP X Pr k params body scope ds t)
    (h : TT (fun E H' Q' => t E σ H' Q') H Q) : codeAny (model X.prog X.w) X.A (.call (.ref g) ⟨[.ref f], []⟩) (CR C8.CX0 X.stack X.prog X.w H s Q C8.E0) s := by
  obtain ⟨pg, dV, kV, doc, pm, cdv, ct, oc, an, od, osl, lk, hcg, hbi, hG⟩ := G.ex
  have kin : X.K.In s.heap := e0.mod.kin.keeps fun b o e => (e0.bs b o e).1
  refine run_ofS (N := Ng) (ps := [a]) (us := [.ref f]) (vs := [.ref f]) lk hcg G.Sg hr e0 (hbi s [.ref f] kin rfl) (.cons rfl .nil) rfl fun hr' => ?_
  exact hG f s H Q (fun E H' Q' => t E σ H' Q') (hr'.mono h9) (fun W pn xe pa pc tk => pe_act2P hS C hP la B tk hr' G.hN G.hv G.hd G.hcd) h
def tGiveP (X : Cx) (Pr : Hp → Heap → Prop) (k : Nat) (TT : (XK → Hp → VK → Prop) → Hp → VK → Prop) (ta : TA) (τ : L2.St → L2.St) : TE := fun σz H Q =>
  ta σz H fun vs H1 => ∃ (f : Addr) (params : Arguments) (body : Expr) (scope : Scope) (ds : List V) (t : XK → TE), vs = [.ref f] ∧ LamAt X H1 f params body scope ds ∧ LamBP X Pr k params body scope ds t ∧ TT (fun E H' Q' => t E (τ σz) H' Q') H1 Q
/-- x(e), e a lambda of the def that runs, which itself got a lambda -/
theorem pe_give2P {TT : (XK → Hp → VK → Prop) → Hp → VK → Prop} {x a : Str} {g : Addr} {k : Nat} {bg : List Stmt} {sg : Scope} {Ng : List Str} {e : Expr} {ta : TA} {p pos : Pos} (hS : Stable Pr) (hP : Pr X.H_0 X.s_0.heap) (hex : X.ex = []) (G : GiveF X Ng x sg g bg a TT) (hg : Gl X x) (hr : Room (k + 2) X.A) (h9 : 9 ≤ k + 1) (ha : PA X [e] ta)
    (hdb : (x == ("__debug__" : Str)) = false := by decide) (he : starEach [e] X.env = (false, eval e X.env) :: starEach [] X.env := by rfl) (hpl : (backTo pos (starEach [] X.env)).any (·.1) = false := by rfl) :
    PE X (.Call (.Name x p) [e] [] pos) (tGiveP X Pr k TT ta id) := by
  refine ⟨fun pins s σ H Q I h => ?_⟩
  refine wpAny_Call_Name_kw (ld_glob I hg G.hm ?_ hdb)
  refine PySem.W.callWith_K (h₀ := X.base) I.ok.mod.kin G.hk (thn (ha.run pos pins s σ H _ I h) fun us s1 ⟨vs, H1, I1, r, q⟩ => ⟨I1.kIn, ?_⟩) he hpl
  obtain ⟨f, params, body, scope, ds, t, rfl, la, B, q⟩ := q
  obtain ⟨u, rfl, ru⟩ := r.one
  obtain rfl : u = Value.ref f := ru
  have un := I1.base
  rw [hex] at un
  refine wpAny_call (codeAny_mono (give_runP hS G I1.env0 (.of I1) (hS _ _ _ _ _ un hP) hr h9 la B q) fun r sx hq => ?_)
  cases r with
  | error e => exact (show False from hq).elim
  | ok fl =>
    cases fl with
    | ret u => exact I1.after hq
    | next => exact False.elim hq
    | brk => exact False.elim hq
    | cont => exact False.elim hq
end
/-! ### the call of what was got, in a lambda of the def that got it -/
/-- a(), a: the name (at i) of a lambda of X -/
def tCap (X : Cx) (k : Nat) (σ0 : L2.St) (i : Nat) (E : XK) : TE := fun σz Hz Q =>
  ∃ (f : Addr) (params : Arguments) (body : Expr) (scope : Scope) (ds : List V) (t : XK → TE), σz[i]? = some (some (.ref f)) ∧ LamAt X Hz f params body scope ds ∧ LamB X k params body scope ds t ∧ t E σ0 Hz Q
theorem pe_cap {X : Cx} {sg : Scope} {g : Addr} {cdg : Value} {Ng : List Str} {qg a : Str} {s s1 : Shared} {H H1 : Hp} {σ0 : L2.St} {A : Around} {outer : List Env} {E E' : XK} {scope : Scope} {f' c' : Addr} {k i : Nat} {pa pc : Pos}
    (hC : CellsAt X σ0 H1 s1.heap) (hr : Room (k + 1) (A.deeper (lamEnv (cxOf C8.CX0 X.prog X.w X.K X.mg X.base Ng qg sg g cdg X.A X.stack s H C8.E0) scope s1.heap.objs.size f' c')))
    (hx : Passes (L2.CX X.prog X.w) (lamCx (cxOf C8.CX0 X.prog X.w X.K X.mg X.base Ng qg sg g cdg X.A X.stack s H C8.E0) A outer s1 H1 E scope f' c') E')
    (hN : Ng[i]? = some a) (hv : Vis scope a) (hd : (a == ("__debug__" : Str)) = false) (hcd : (a == ("__classdict__" : Str)) = false) :
    PE (lamCx (cxOf C8.CX0 X.prog X.w X.K X.mg X.base Ng qg sg g cdg X.A X.stack s H C8.E0) A outer s1 H1 E scope f' c') (.Call (.Name a pa) [] [] pc) (tCap X k σ0 i E') := by
  refine ⟨fun pz sz σz Hz Q Iz h => ?_⟩
  obtain ⟨f, params, body, sc, ds, t, hs, la, B, ht⟩ := h
  refine wpAny_Call_Name_kw (thn ((pe_var (pos := pa) (i := i) hN hv hd hcd).run pz sz σz Hz (fun v Hy => v = .ref f ∧ Hy = Hz) Iz ⟨.ref f, hs, rfl, rfl⟩) fun u sy ⟨v, Hy, Iy, ry, qy⟩ => ?_)
  obtain ⟨rfl, rfl⟩ := qy
  obtain rfl : u = Value.ref f := ry
  obtain ⟨c2, dV, hf, hc, hdd⟩ := id la
  obtain ⟨⟨doc, pm, ctv, lam⟩, _, _⟩ := Iy.hok f _ hf
  refine PySem.W.callWith_F0 ⟨_, _, _, _, lam⟩ ?_
  have un : Un (frs outer) [] H1 Hy s1.heap sy.heap := Iy.base
  have run := lam_run (X := X) (E := E') (Q := Q) Iy.env0 (hC.un un fun _ _ _ z => nomatch z) la B hr ht
  refine wpAny_call (codeAny_mono run fun r sx hq => ?_)
  cases r with
  | error e => exact hx _ _ _ _ _ _ Iy hq
  | ok fl =>
    cases fl with
    | ret u => exact Iy.after hq
    | next => exact False.elim hq
    | brk => exact False.elim hq
    | cont => exact False.elim hq
/-! ### the def itself -/
/-- what it makes of the lambda it gets, where that lambda's cells and object are known -/
def Gives3 (X : Cx) (k : Nat) (Ng : List Str) (x : Str) (sg : Scope) (g : Addr) (cdg : Value) (bg : List Stmt) (TT : (XK → Hp → VK → Prop) → Hp → VK → Prop) : Prop :=
  ∀ (f : Addr) (s : Shared) (H : Hp) (Q : VK) (σ : L2.St) (params : Arguments) (body : Expr) (scope : Scope) (ds : List V) (t : XK → TE), Room (k + 5) (X.A.deeper (envOfC x sg s.heap.objs.size g cdg)) → CellsAt X σ H s.heap → LamAt X H f params body scope ds → LamB X k params body scope ds t →
    TT (fun E H' Q' => t E σ H' Q') H Q → ∃ t', PSs (cxOf C8.CX0 X.prog X.w X.K X.mg X.base Ng x sg g cdg X.A X.stack s H C8.E0) bg t' ∧ t' { nx := fun _ H' => Q .non H', rt := Q } (L2.start Ng [.ref f]) H
structure GiveF3 (X : Cx) (k : Nat) (Ng : List Str) (x : Str) (sg : Scope) (g : Addr) (bg : List Stmt) (a : Str) (TT : (XK → Hp → VK → Prop) → Hp → VK → Prop) : Prop where
  hm : X.mg x = some (.ref g)
  hk : PySem.W.keepIn X.K (.ref g) = true
  ex : ∃ (pg : Arguments) (dV kV doc pm cdv ct oc : Value) (an od : Option Addr) (osl : Array (Option Value)), X.K.lookup g = some ⟨oc, od, .func (PySem.W.fnOf x x pg bg sg dV kV doc pm an cdv ct), osl⟩ ∧ PySem.W.codeIn X.K cdv x = true ∧
    L2.Binds X.K (PySem.W.fnOf x x pg bg sg dV kV doc pm an cdv ct) [a] [] ∧ Gives3 X k Ng x sg g cdv bg TT
  Sg : FnScope Ng [a] sg
section
variable {X : Cx}
theorem pe_give3 {TT : (XK → Hp → VK → Prop) → Hp → VK → Prop} {x a : Str} {g : Addr} {k : Nat} {bg : List Stmt} {sg : Scope} {Ng : List Str} {e : Expr} {ta : TA} {p pos : Pos} (G : GiveF3 X k Ng x sg g bg a TT) (hg : Gl X x) (hr : Room (k + 6) X.A) (ha : PA X [e] ta)
    (hdb : (x == ("__debug__" : Str)) = false := by decide) (he : starEach [e] X.env = (false, eval e X.env) :: starEach [] X.env := by rfl) (hpl : (backTo pos (starEach [] X.env)).any (·.1) = false := by rfl) :
    PE X (.Call (.Name x p) [e] [] pos) (tGive X k TT ta id) := by
  refine ⟨fun pins s σ H Q I h => ?_⟩
  refine wpAny_Call_Name_kw (ld_glob I hg G.hm ?_ hdb)
  refine PySem.W.callWith_K (h₀ := X.base) I.ok.mod.kin G.hk (thn (ha.run pos pins s σ H _ I h) fun us s1 ⟨vs, H1, I1, r, q⟩ => ⟨I1.kIn, ?_⟩) he hpl
  obtain ⟨f, params, body, scope, ds, t, rfl, la, B, q⟩ := q
  obtain ⟨u, rfl, ru⟩ := r.one
  obtain rfl : u = Value.ref f := ru
  obtain ⟨pg, dV, kV, doc, pm, cdv, ct, oc, an, od, osl, lk, hcg, hbi, hG⟩ := G.ex
  have e0 := I1.env0
  have kin : X.K.In s1.heap := e0.mod.kin.keeps fun b o e => (e0.bs b o e).1
  have run : codeAny (model X.prog X.w) X.A (.call (.ref g) ⟨[.ref f], []⟩) (CR C8.CX0 X.stack X.prog X.w H1 s1 Q C8.E0) s1 :=
    run_ofS (N := Ng) (ps := [a]) (us := [.ref f]) (vs := [.ref f]) lk hcg G.Sg hr e0 (hbi s1 [.ref f] kin rfl) (.cons rfl .nil) rfl fun hr' => hG f s1 H1 Q σ params body scope ds t hr' (.of I1) la B q
  refine wpAny_call (codeAny_mono run fun r sx hq => ?_)
  cases r with
  | error e => exact (show False from hq).elim
  | ok fl =>
    cases fl with
    | ret u => exact I1.after hq
    | next => exact False.elim hq
    | brk => exact False.elim hq
    | cont => exact False.elim hq
end
end Ru

set_option maxHeartbeats 4000000
/-! own operators: -a, a - b, a * n, a == b of a class's own defs -/
namespace Ru
open PySem PySem.Spec PyProof.Rows L2 StX
section
variable {X : Cx} {CX : CXT} {k : Nat} {f C : Addr} {fd : FuncData} {ps : List Str} {sp : Sp} {E : XK}
/-- -a -/
def rOwn1 (C : Addr) (sp : Sp) (E : XK) : V → Hp → VK → Prop := fun x H Q => ∃ a dx fs, x = .ref a ∧ H a = some (.ins C dx fs) ∧ sp [.ref a] H Q E
theorem un_ownNeg (mt : Meth X.K C "__neg__" f) (F : FnOk X.prog X.w X.K X.mg X.base CX k f fd ps sp) (hb : Binds X.K fd ps []) (hr : Room k X.A) (hx : Passes CX X E) : UnR X (unaryOp .USub) (rOwn1 C sp E) := by
  intro pins s σ H x v Q I rx h
  obtain ⟨a, dx, fs, rfl, ea, q⟩ := h
  obtain rfl : v = Value.ref a := rx
  obtain ⟨mA, J, _⟩ := ins_get I.hok ea
  obtain ⟨od, J, _⟩ := J.look
  obtain ⟨m, hF⟩ := I.fr
  exact PySem.W.ksp_neg hF I.ok.mod.kin J mt.at_ mt.fn (run_fn (us := [.ref a]) (vs := [.ref a]) F hr hb .nil hx I (.cons rfl .nil) q)
theorem op_ownSub (hm : mroHd X.K C = true) (mt : Meth X.K C "__sub__" f) (F : FnOk X.prog X.w X.K X.mg X.base CX k f fd ps sp) (hb : Binds X.K fd ps []) (hr : Room k X.A) (hx : Passes CX X E) : OpR X (binaryOp .Sub) (rOwnB C sp E) := by
  intro pins s σ H x y v u Q I rx ry h
  obtain ⟨a, dx, fs, b, dy, gs, rfl, rfl, ea, eb, q⟩ := h
  obtain rfl : v = Value.ref a := rx
  obtain rfl : u = Value.ref b := ry
  obtain ⟨oa, ha, hac⟩ := ins_obj I.hok ea
  obtain ⟨ob, hb', hbc⟩ := ins_obj I.hok eb
  unfold binaryOp
  refine wpAny_holding (wpAny_bind (bin1_own (nm := "sub") (C := C) (f := f) I.kIn hm ha hac hb' hbc mt.at_ mt.fn ?_))
  refine thn (run_fn (us := [.ref a, .ref b]) (vs := [.ref a, .ref b]) F hr hb .nil hx I (.cons rfl (.cons rfl .nil)) q) fun v s' e => ?_
  have ev := e
  obtain ⟨vv, H', I', rv, _⟩ := e
  exact ⟨relV_ni rv, wpAny_pure ev⟩
/-- what a * n asks of the class -/
structure MulC (K : PySem.W.Frag) (C f : Addr) : Prop where
  hc : PySem.W.selfFirst K C = true
  hs : PySem.W.findIn K (.ref C) (PySem.dunder "mul") = some (some (.ref f))
  hf : PySem.W.isFn K (.ref f) = true
  hr : PySem.W.findIn K (.ref C) (dunderR "mul") = some none
  h1 : ∃ fo, PySem.W.findIn K (.type "int") (PySem.dunder "mul") = some fo
  h2 : ∃ ro, PySem.W.findIn K (.type "int") (dunderR "mul") = some ro
  hsub : PySem.W.subIn K (.type "int") (.ref C) = some false
/-- a * n -/
def rOwnI (C : Addr) (sp : Sp) (E : XK) : R2 := fun x y H Q => ∃ a dx fs n, x = .ref a ∧ y = .int n ∧ H a = some (.ins C dx fs) ∧ sp [.ref a, .int n] H Q E
theorem op_ownMul (mc : MulC X.K C f) (F : FnOk X.prog X.w X.K X.mg X.base CX k f fd ps sp) (hb : Binds X.K fd ps []) (hr : Room k X.A) (hx : Passes CX X E) : OpR X (binaryOp .Mult) (rOwnI C sp E) := by
  intro pins s σ H x y v u Q I rx ry h
  obtain ⟨a, dx, fs, n, rfl, rfl, ea, q⟩ := h
  obtain rfl : v = Value.ref a := rx
  obtain ⟨t, rfl⟩ := (show ∃ t, u = Value.int n t from ry)
  obtain ⟨mA, J, _⟩ := ins_get I.hok ea
  obtain ⟨od, J, _⟩ := J.look
  obtain ⟨m, hF⟩ := I.fr
  obtain ⟨fo, h1⟩ := mc.h1
  obtain ⟨ro, h2⟩ := mc.h2
  refine PySem.W.ksp_binT (T := "int") hF I.ok.mod.kin J rfl mc.hc mc.hs mc.hf mc.hr (.inl rfl) h1 h2 mc.hsub ?_
  refine thn (run_fn (us := [.ref a, .int n t]) (vs := [.ref a, .int n]) F hr hb .nil hx I (.cons rfl (.cons ⟨t, rfl⟩ .nil)) q) fun v s' z => ?_
  obtain ⟨z', H', I', rz, qz⟩ := z
  exact SlX.cmpback rz ⟨z', H', I', rz, qz⟩
/-- what a == b asks of the class -/
structure EqC (K : PySem.W.Frag) (C f : Addr) : Prop where
  hs : PySem.W.findIn K (.ref C) "__eq__" = some (some (.ref f))
  hf : PySem.W.isFn K (.ref f) = true
  n1 : PySem.W.notFirst K C (.ref C) = true
  n2 : PySem.W.notFirst K C (.type "int") = true
/-- a == b, b of the class or a whole number -/
def rOwnQ (C : Addr) (sp : Sp) (E : XK) : R2 := fun x y H Q => ∃ a dx fs, x = .ref a ∧ H a = some (.ins C dx fs) ∧ ((∃ b dy gs, y = .ref b ∧ H b = some (.ins C dy gs)) ∨ ∃ n, y = .int n) ∧ sp [x, y] H Q E
theorem op_ownEq (mc : EqC X.K C f) (F : FnOk X.prog X.w X.K X.mg X.base CX k f fd ps sp) (hb : Binds X.K fd ps []) (hr : Room k X.A) (hx : Passes CX X E) : OpR X (compareOp .Eq) (rOwnQ C sp E) := by
  intro pins s σ H x y v u Q I rx ry h
  obtain ⟨a, dx, fs, rfl, ea, alt, q⟩ := h
  obtain rfl : v = Value.ref a := rx
  obtain ⟨mA, J, _⟩ := ins_get I.hok ea
  obtain ⟨od, J, _⟩ := J.look
  obtain ⟨m, hF⟩ := I.fr
  have go : ∀ tb : Value, PySem.W.Looks (model X.prog X.w) s.heap (typeOf u) tb → PySem.W.notFirst X.K C tb = true → wpAny (model X.prog X.w) X.A (richCompare .Eq (.ref a) u) (EP X pins σ Q) X.xe s := fun tb ht hn => by
    refine PySem.W.cmp_K (op := .Eq) (tb := tb) hr.units0 hF I.ok.mod.kin J ht hn mc.hs mc.hf ?_
    refine thn (run_fn (us := [.ref a, u]) (vs := [.ref a, y]) F hr hb .nil hx I (.cons rfl (.cons ry .nil)) q) fun v s' z => ?_
    obtain ⟨z', H', I', rz, qz⟩ := z
    exact SlX.cmpback rz ⟨z', H', I', rz, qz⟩
  show wpAny _ _ (richCompare .Eq (.ref a) u) _ _ _
  rcases alt with ⟨b, dy, gs, rfl, eb⟩ | ⟨n, rfl⟩
  · obtain rfl : u = Value.ref b := ry
    obtain ⟨mB, J', _⟩ := ins_get I.hok eb
    obtain ⟨od', J', _⟩ := J'.look
    exact go _ J'.type mc.n1
  · obtain ⟨t, rfl⟩ := (show ∃ t, u = Value.int n t from ry)
    exact go (.type "int") (PySem.W.Looks.of_pure rfl) mc.n2
end
end Ru

namespace Ru
open PySem PySem.Spec PyProof.Rows L2
/-! RuP: parts and sums of tuples, whatever they are -/
section
variable {K : PySem.W.Frag} {H : Hp} {p q : Addr} {cs : List Int} {i : Nat} {Q : VK}
theorem updS {o : HO} : upd H p o p = some o := by
  show (if p = p then some o else H p) = some o
  rw [if_pos rfl]
theorem take_min (i : Nat) (l : List Int) : l.take (min i l.length) = l.take i := by
  rcases Nat.le_total i l.length with h | h
  · rw [Nat.min_eq_left h]
  · rw [Nat.min_eq_right h, List.take_length, List.take_of_length_le h]
theorem cutPre : cutV (cs.map V.int) none (some (i : Int)) = (cs.take i).map V.int := by
  unfold cutV
  rw [HT.sIx_none, HT.sIx_nat, List.length_map, List.drop_zero, Nat.sub_zero, ← take_min, List.map_take]
theorem cutPost (h : i ≤ cs.length) : cutV (cs.map V.int) (some (i : Int)) none = (cs.drop i).map V.int := by
  unfold cutV
  rw [HT.sIx_none, HT.sIx_nat, List.length_map, Nat.min_eq_left h, List.map_drop, List.take_of_length_le]
  rw [List.length_drop, List.length_map]
  exact Nat.le_refl _
/-- t[:i] -/
theorem slPre (hp : H p = some (.tup (cs.map V.int))) (k : ∀ r H', Same H H' → H' r = some (.tup ((cs.take i).map V.int)) → Q (.ref r) H') : rSlA K (.ref p) none (some (i : Int)) H Q := by
  refine ⟨p, _, rfl, SqT.of hp, fun z => ?_, fun _ r hr => ?_⟩
  · obtain ⟨_, z⟩ := z
    rw [HT.sIx_nat, List.length_map] at z
    refine k _ _ (Same.refl _) ?_
    rw [← take_min, z, List.take_length]; exact hp
  · rw [cutPre]
    exact k _ _ (sameU hr) updS
/-- t[i:] -/
theorem slPost (hp : H p = some (.tup (cs.map V.int))) (h : i ≤ cs.length) (k : ∀ r H', Same H H' → H' r = some (.tup ((cs.drop i).map V.int)) → Q (.ref r) H') : rSlA K (.ref p) (some (i : Int)) none H Q := by
  refine ⟨p, _, rfl, SqT.of hp, fun z => ?_, fun _ r hr => ?_⟩
  · obtain ⟨z, _⟩ := z
    rw [HT.sIx_nat, List.length_map, Nat.min_eq_left h] at z
    refine k _ _ (Same.refl _) ?_
    rw [z, List.drop_zero]; exact hp
  · rw [cutPost h]
    exact k _ _ (sameU hr) updS
/-- t + u -/
theorem catAny {xs ys : List V} (hp : H p = some (.tup xs)) (hq : H q = some (.tup ys)) (hz : xs.length + ys.length ≤ sizeLine) (k : ∀ r H', Same H H' → H' r = some (.tup (xs ++ ys)) → Q (.ref r) H') : rCatA K (.ref p) (.ref q) H Q := by
  refine ⟨p, q, xs, ys, rfl, rfl, SqT.of hp, SqT.of hq, hz, fun e => ?_, fun _ e => ?_, fun _ _ r hr => k _ _ (sameU hr) updS⟩
  · refine k _ _ (Same.refl _) ?_
    rw [e, List.nil_append]; exact hq
  · refine k _ _ (Same.refl _) ?_
    rw [e, List.append_nil]; exact hp
end
end Ru

namespace W6
open PySem PySem.Spec PyProof.Rows L2 Ru StX LamX
theorem log_small {i : Nat} (h : i ≤ 1000) : (i : Int).natAbs.log2 < 1920 := by
  have e : (i : Int).natAbs = i := rfl
  rw [e]
  by_cases z : i = 0
  · subst z; decide
  · exact (Nat.log2_lt z).mpr (Nat.lt_of_le_of_lt h (Nat.lt_of_lt_of_le (by decide : 1000 < 2 ^ 10) (Nat.pow_le_pow_right (by decide) (by decide))))
def rLenS (K : PySem.W.Frag) : List V → Hp → VK → Prop := fun xs H Q => ∃ p ys, xs = [.ref p] ∧ (SqL K H p ys ∨ SqT K H p ys) ∧ Q (.int ys.length) H
/-- the sums of two weathers' changes -/
def addR (cs ds : List Int) : List Int := (List.range (Nat.lcm cs.length ds.length)).map fun t => cs.getD (t % cs.length) 0 + ds.getD (t % ds.length) 0
def spAddR : Sp := fun vs H Q _ => ∃ (t u : Addr) (cs ds : List Int), vs = [.ref t, .ref u] ∧ H t = some (.tup (cs.map V.int)) ∧ H u = some (.tup (ds.map V.int)) ∧ 1 ≤ cs.length ∧ cs.length ≤ 24 ∧ 1 ≤ ds.length ∧ ds.length ≤ 24 ∧
  ∀ p H', Same H H' → H' p = some (.lst ((addR cs ds).map V.int)) → Q (.ref p) H'
theorem at_mod (cs : List Int) (i : Nat) (c1 : 1 ≤ cs.length) : atI (cs.map V.int) ((0 + (i : Int)) % (((cs.map V.int).length : Nat) : Int)) = some (V.int (cs.getD (i % cs.length) 0)) := by
  have e : (0 + (i : Int)) % (((cs.map V.int).length : Nat) : Int) = ((i % cs.length : Nat) : Int) := by
    rw [List.length_map, Int.zero_add]
    rfl
  rw [e]
  have l : i % cs.length < cs.length := Nat.mod_lt _ (by omega)
  refine at_int (Int.natCast_nonneg _) ?_
  show (cs.map V.int)[i % cs.length]? = _
  rw [List.getElem?_map, List.getElem?_eq_getElem l]
  simp [List.getD, List.getElem?_eq_getElem l]
theorem lcStep' {H H' : Hp} {D : Addr} {o : HO} (hD : H D = none) (s : Same H H') : Same H (upd H' D o) := fun b u e => by
  rw [upd_ne (ne_of_none e hD)]; exact s _ _ e
/-- a list so many times -/
def rep (k : Nat) (cs : List Int) : List Int := (List.replicate k cs).flatten
def SameW (cs ds : List Int) : Prop := rep (Nat.lcm cs.length ds.length / cs.length) cs = rep (Nat.lcm cs.length ds.length / ds.length) ds
def spSame : Sp := fun vs H Q _ => ∃ (t u : Addr) (cs ds : List Int), vs = [.ref t, .ref u] ∧ H t = some (.tup (cs.map V.int)) ∧ H u = some (.tup (ds.map V.int)) ∧ 1 ≤ cs.length ∧ cs.length ≤ 24 ∧ 1 ≤ ds.length ∧ ds.length ≤ 24 ∧
  ∀ b H', Same H H' → (b = true ↔ SameW cs ds) → Q (.bl b) H'
theorem cut_post {cs : List Int} {i : Nat} (h : i ≤ cs.length) : cutV (cs.map V.int) (some (i : Int)) none = (cs.drop i).map V.int := by
  unfold cutV
  rw [HT.sIx_none, HT.sIx_nat, List.length_map, Nat.min_eq_left h, List.map_drop, List.take_of_length_le]
  rw [List.length_drop, List.length_map]
  exact Nat.le_refl _
theorem lay_ints : ∀ ns : List Int, PyData.canLayAll0 (ns.map PyData.int) = true
  | [] => rfl
  | n :: r => by
    rw [List.map_cons, PyData.canLayAll0, lay_ints r]
    rfl
theorem dep_ints : ∀ ns : List Int, PyData.depthAll (ns.map PyData.int) = 0
  | [] => by simp [PyData.depthAll]
  | n :: r => by
    have e : PyData.depthAll ((n :: r).map PyData.int) = max (PyData.depth (.int n)) (PyData.depthAll (r.map PyData.int)) := rfl
    rw [e, dep_ints r]
    simp [PyData.depth]
theorem sh_intsT (ns : List Int) : SeqAt.shaped (.tuple (ns.map PyData.int)) = true := by
  unfold SeqAt.shaped
  rw [Bool.and_eq_true]
  refine ⟨lay_ints ns, decide_eq_true ?_⟩
  show PyData.depthAll (ns.map PyData.int) + 1 ≤ 64
  rw [dep_ints]; omega
theorem repA_of {K : PySem.W.Frag} {l : Addr} {xs : List V} {k : Nat} {H : Hp} {Q : VK} (hx : H l = some (.tup xs)) (ne : 1 ≤ xs.length) (k1 : 1 ≤ k) (k2 : k ≤ 1000) (hz : xs.length ≤ 1000) (g : ∀ p H', Same H H' → H' p = some (.tup (List.replicate k xs).flatten) → Q (.ref p) H') : rRepA K (.ref l) (.int k) H Q := by
  by_cases e : k = 1
  · subst e
    exact .inr ⟨l, xs, rfl, rfl, SqT.of hx, g l H (Same.refl _) (by rw [hx]; simp)⟩
  · exact .inl ⟨l, k, xs, rfl, rfl, SqT.of hx, fun z => by rw [z] at ne; exact absurd ne (by decide), by omega, by omega, hz, fun p hp => g p _ (same_upd hp) upd_same⟩
theorem rep_map (k : Nat) (cs : List Int) : (List.replicate k (cs.map V.int)).flatten = (rep k cs).map V.int := by
  unfold rep
  rw [List.map_flatten, List.map_replicate]
/-! ### the same in all ticks -/
theorem chAt_mod (cs : List Int) (t m : Nat) (h : cs.length ∣ m) : Th.chAt cs (t % m) = Th.chAt cs t := by
  unfold Th.chAt
  rw [Nat.mod_mod_of_dvd _ h]
theorem chAt_lt {cs : List Int} {t : Nat} (h : t < cs.length) : cs[t]? = some (Th.chAt cs t) := by
  unfold Th.chAt
  rw [Nat.mod_eq_of_lt h, List.getD_eq_getElem?_getD, List.getElem?_eq_getElem h]
  rfl
theorem chAt_sub {cs : List Int} {t : Nat} (h : cs.length ≤ t) : Th.chAt cs (t - cs.length) = Th.chAt cs t := by
  unfold Th.chAt
  rw [Nat.mod_eq_sub_mod h]
theorem rep_succ (k : Nat) (cs : List Int) : rep (k + 1) cs = cs ++ rep k cs := by
  unfold rep
  rw [List.replicate_succ, List.flatten_cons]
theorem rep_len (cs : List Int) : ∀ k : Nat, (rep k cs).length = k * cs.length
  | 0 => by simp [rep]
  | k + 1 => by rw [rep_succ, List.length_append, rep_len cs k, Nat.succ_mul]; omega
theorem rep_at (cs : List Int) : ∀ k t : Nat, t < k * cs.length → (rep k cs)[t]? = some (Th.chAt cs t)
  | 0, t, h => by simp at h
  | k + 1, t, h => by
    rw [rep_succ]
    rcases Nat.lt_or_ge t cs.length with l | l
    · rw [List.getElem?_append_left l, chAt_lt l]
    · rw [List.getElem?_append_right l, rep_at cs k (t - cs.length) (by rw [Nat.succ_mul] at h; omega), chAt_sub l]
theorem sameW_iff {cs ds : List Int} (h1 : 1 ≤ cs.length) (h2 : 1 ≤ ds.length) : SameW cs ds ↔ ∀ t, t < Nat.lcm cs.length ds.length → Th.chAt cs t = Th.chAt ds t := by
  have d1 : Nat.lcm cs.length ds.length / cs.length * cs.length = Nat.lcm cs.length ds.length := Nat.div_mul_cancel (Nat.dvd_lcm_left _ _)
  have d2 : Nat.lcm cs.length ds.length / ds.length * ds.length = Nat.lcm cs.length ds.length := Nat.div_mul_cancel (Nat.dvd_lcm_right _ _)
  unfold SameW
  constructor
  · intro e t ht
    have a1 := rep_at cs (Nat.lcm cs.length ds.length / cs.length) t (by omega)
    have a2 := rep_at ds (Nat.lcm cs.length ds.length / ds.length) t (by omega)
    rw [e, a2] at a1
    exact (Option.some.inj a1).symm
  · intro e
    refine List.ext_getElem? fun t => ?_
    rcases Nat.lt_or_ge t (Nat.lcm cs.length ds.length) with l | l
    · rw [rep_at cs _ t (by omega), rep_at ds _ t (by omega), e t l]
    · rw [List.getElem?_eq_none (by rw [rep_len]; omega), List.getElem?_eq_none (by rw [rep_len]; omega)]
theorem sameW_all {cs ds : List Int} (h1 : 1 ≤ cs.length) (h2 : 1 ≤ ds.length) {m : Nat} (hm : Nat.lcm cs.length ds.length ≤ m) : SameW cs ds ↔ ∀ t, t < m → Th.chAt cs t = Th.chAt ds t := by
  rw [sameW_iff h1 h2]
  have lp : 0 < Nat.lcm cs.length ds.length := Nat.lcm_pos (by omega) (by omega)
  exact ⟨fun h t _ => by rw [← chAt_mod cs t _ (Nat.dvd_lcm_left cs.length ds.length), ← chAt_mod ds t _ (Nat.dvd_lcm_right cs.length ds.length)]; exact h _ (Nat.mod_lt _ lp), fun h t ht => h t (by omega)⟩
theorem sum_chAt (cs : List Int) : ∀ n : Nat, ((List.range n).map fun t => Th.chAt cs t).sum = Th.sumTo cs 0 n
  | 0 => rfl
  | n + 1 => by
    rw [List.range_succ, List.map_append, List.sum_append, sum_chAt cs n]
    show _ = Th.sumTo cs 0 n + Th.chAt cs n + 0
    simp
section
variable {P : Program} {w : World} {K : PySem.W.Frag} {mg : Str → Option Value} {base : Heap} {a : Ad}
theorem ok_added_rounds (T : Txt K mg a) : FnOk P w K mg base CX0 1 a.f_added_rounds a.d_added_rounds ["one", "other"] spAddR := by
  refine T.F_added_rounds.ok sc_added_rounds (fun vs H Q E h => ?_) (fun cdv A outer s H vs Q E hr h => ?_)
  · obtain ⟨t, u, cs, ds, rfl, _⟩ := h
    rfl
  · obtain ⟨t, u, cs, ds, rfl, ht, hu, c1, c2, d1, d2, k⟩ := h
    refine ⟨_, (pss_cons (ps_set (i := 2) sc_added_rounds.nd rfl (Or.inl rfl) (pe_callBfun cr_lcm (by rfl) T.mg_lcm (pa_cons (pe_callB (show CallR _ (.builtin "len") (rLenS K) from call_len_seq) (by rfl) T.z_len PySem.boot_len (pa_cons (pv 0) pa_nil)) (pa_cons (pe_callB (show CallR _ (.builtin "len") (rLenS K) from call_len_seq) (by rfl) T.z_len PySem.boot_len (pa_cons (pv 1) pa_nil)) pa_nil))))
      (pss_one (ps_ret (pe_lc (own := [("tick", 3)]) (g := gName 3) rfl sc_added_rounds.nd (pi_range1 (by rfl) T.z_range (pa_cons (pv 2) pa_nil)) (blkOk_by (own := [("tick", 3)]) (N := ["one", "other", "many", "tick"]) (sc := (defScope s_added_rounds)) (by decide +kernel)) (fun _ _ _ _ _ => pg_name (i := 3) sc_added_rounds.nd rfl (Or.inl rfl)) (fun _ _ _ _ _ => pts_nil) (fun _ _ _ _ _ => (pe_op op_add (pe_ix (show IxR _ (rIxT K) from ix_tup) (pv 0) (pe_op op_mod (pv 3) (pe_callB (show CallR _ (.builtin "len") (rLenS K) from call_len_seq) (by rfl) T.z_len PySem.boot_len (pa_cons (pv 0) pa_nil))) (fun _ _ => rfl)) (pe_ix (show IxR _ (rIxT K) from ix_tup) (pv 1) (pe_op op_mod (pv 3) (pe_callB (show CallR _ (.builtin "len") (rLenS K) from call_len_seq) (by rfl) T.z_len PySem.boot_len (pa_cons (pv 1) pa_nil))) (fun _ _ => rfl)))))))), ?_⟩
    have n1 : (cs.map V.int).length = cs.length := List.length_map _
    have n2 : (ds.map V.int).length = ds.length := List.length_map _
    have lcd : Nat.lcm cs.length ds.length ≤ 24 * 24 := Nat.le_trans (Nat.lcm_le_mul (by omega) (by omega)) (Nat.mul_le_mul c2 d2)
    refine ⟨_, rfl, t, _, rfl, .inr (SqT.of ht), _, rfl, u, _, rfl, .inr (SqT.of hu), (cs.map V.int).length, (ds.map V.int).length, rfl, by omega, by omega, ?_⟩
    rw [n1, n2]
    refine ⟨_, rfl, ((Nat.lcm cs.length ds.length : Nat) : Int), rfl, by omega, by omega, fun D hD => lc_range (lo := 0) (n := ((Nat.lcm cs.length ds.length : Nat) : Int).toNat) (fun i H' => Same H H' ∧ H' D = some (.lst ((List.range i).map fun t => V.int (cs.getD (t % cs.length) 0 + ds.getD (t % ds.length) 0)))) ⟨same_upd hD, upd_same⟩ ?_ ?_⟩
    · intro i H' hi ⟨sm, hd⟩
      have h1 := sm _ _ ht
      have h2 := sm _ _ hu
      have p1 : (0 : Int) < ((cs.map V.int).length : Nat) := by rw [n1]; omega
      have p2 : (0 : Int) < ((ds.map V.int).length : Nat) := by rw [n2]; omega
      have q1 := at_mod cs i c1
      have q2 := at_mod ds i d1
      refine ⟨rfl, _, rfl, _, rfl, _, rfl, t, _, rfl, .inr (SqT.of h1), _, _, rfl, rfl, p1, t, _, _, _, rfl, rfl, SqT.of h1, q1, _, rfl, _, rfl, _, rfl, u, _, rfl, .inr (SqT.of h2), _, _, rfl, rfl, p2, u, _, _, _, rfl, rfl, SqT.of h2, q2, _, _, rfl, rfl, ?_⟩
      have iM : i < 24 * 24 := by omega
      refine ⟨_, hd, by rw [List.length_map, List.length_range]; exact small1000 (by omega), lcStep' hD sm, by rw [upd_same, List.range_succ, List.map_append]; rfl⟩
    · rintro H' ⟨sm, hd⟩
      refine k _ _ sm ?_
      rw [hd, addR, List.map_map]
      rfl
theorem addR_len (cs ds : List Int) : (addR cs ds).length = Nat.lcm cs.length ds.length := by rw [addR, List.length_map, List.length_range]
end
end W6

namespace W6
open PySem PySem.Spec PyProof.Rows L2 Ru StX LamX
theorem seq_if {c : TT} {A u : TS} {D : Ends} {σ : L2.St} {H : Hp} (C : L2.St → Hp → Prop) (h1 : ∀ D' : Ends, (∀ σ H, C σ H → D'.nx σ H) → tIfS c A tNext D' σ H) (h2 : ∀ σ H, C σ H → u D σ H) : tSeq (tIfS c A tNext) u D σ H := h1 _ h2
theorem g_if {i : Nat} {v : V} {c : TT} {A u : TS} {D : Ends} {σ : L2.St} {H : Hp} (C : L2.St → Hp → Prop) (h1 : ∀ D' : Ends, (∀ σ H, C σ H → D'.nx σ H) → tIfS c A tNext D' (σ.set i (some v)) H) (h2 : ∀ σ H, C σ H → u D σ H) : gName i v σ H (tSeq (tIfS c A tNext) u D) := h1 _ h2
theorem g_asg {i : Nat} {v : V} {te : TE} {g : TG} {u : TS} {D : Ends} {σ : L2.St} {H : Hp} (C : V → Hp → Prop) (h1 : ∀ Q7 : VK, (∀ w H', C w H' → Q7 w H') → te (σ.set i (some v)) H Q7) (h2 : ∀ w H', C w H' → g w (σ.set i (some v)) H' (u D)) : gName i v σ H (tSeq (tAsg te g) u D) := h1 _ h2
theorem seq_asg {te : TE} {g : TG} {u : TS} {D : Ends} {σ : L2.St} {H : Hp} (C : V → Hp → Prop) (h1 : ∀ Q7 : VK, (∀ w H', C w H' → Q7 w H') → te σ H Q7) (h2 : ∀ w H', C w H' → g w σ H' (u D)) : tSeq (tAsg te g) u D σ H := h1 _ h2
theorem pow12 : (10 : Int) ^ (12 : Int).toNat = 1000000000000 := by decide
theorem pow18 : (10 : Int) ^ (18 : Int).toNat = 1000000000000000000 := by decide
theorem tnext {D : Ends} {σ : L2.St} {H : Hp} (h : D.nx σ H) : tNext D σ H := h
theorem seq_par {ta : TA} {i j : Nat} {u : TS} {D : Ends} {σ : L2.St} {H : Hp} (C : V → V → Hp → Prop) (h1 : ∀ Q7 : List V → Hp → Prop, (∀ v w H', C v w H' → Q7 [v, w] H') → ta σ H Q7) (h2 : ∀ v w H', C v w H' → u D ((σ.set i (some v)).set j (some w)) H') : tSeq (tPar i j ta) u D σ H :=
  h1 (fun vs H1 => ∃ v w, vs = [v, w] ∧ u D ((σ.set i (some v)).set j (some w)) H1) fun v w H' c => ⟨v, w, rfl, h2 v w H' c⟩
theorem pickI {es : List Int} {r : Int} (h0 : 0 ≤ r) (h1 : r < (es.length : Int)) : ∃ e, e ∈ es ∧ atI (es.map V.int) r = some (.int e) := by
  obtain ⟨n, rfl⟩ : ∃ n : Nat, r = n := ⟨r.toNat, by omega⟩
  have hn : n < es.length := by omega
  exact ⟨es[n], List.getElem_mem hn, atI_nat (by rw [List.getElem?_map, List.getElem?_eq_getElem hn]; rfl)⟩
theorem seq_ife {c : TT} {A B u : TS} {D : Ends} {σ : L2.St} {H : Hp} (C : L2.St → Hp → Prop) (h1 : ∀ D' : Ends, (∀ σ H, C σ H → D'.nx σ H) → tIfS c A B D' σ H) (h2 : ∀ σ H, C σ H → u D σ H) : tSeq (tIfS c A B) u D σ H := h1 _ h2
theorem dl_two {H : Hp} {p q D : Addr} {r t : List V} (hp : H p = some (.tup r)) (hq : H q = some (.tup t)) (hD : H D = some (.lst [.ref p, .ref q])) : DL H D [r, t] := ⟨[p, q], hD, rfl, fun m u v a b => match m, a, b with | 0, a, b => by cases a; cases b; exact hp | 1, a, b => by cases a; cases b; exact hq⟩
theorem dl_rep {H : Hp} {p D : Addr} {r : List V} {n : Nat} (hp : H p = some (.tup r)) (hD : H D = some (.lst (List.replicate n (.ref p)))) : DL H D (List.replicate n r) := ⟨List.replicate n p, by rw [List.map_replicate]; exact hD, by rw [List.length_replicate, List.length_replicate], fun m u v a b => by
  have h1 := List.mem_of_getElem? a
  have h2 := List.mem_of_getElem? b
  rw [List.mem_replicate] at h1 h2
  rw [h1.2, h2.2]; exact hp⟩
theorem if_op {r : L2.R2} {te tr : TE} {A B : TS} {D : Ends} {σ : L2.St} {H : Hp} (h : te σ H fun x H1 => tr σ H1 fun y H2 => r x y H2 fun v H3 => ∃ b, v = .bl b ∧ if b = true then A D σ H3 else B D σ H3) : tIfS (tTest (tOp r te tr)) A B D σ H := h
theorem g_ifop {i : Nat} {v : V} {r : L2.R2} {te tr : TE} {A B : TS} {D : Ends} {σ : L2.St} {H : Hp} (h : te (σ.set i (some v)) H fun x H1 => tr (σ.set i (some v)) H1 fun y H2 => r x y H2 fun w H3 => ∃ b, w = .bl b ∧ if b = true then A D (σ.set i (some v)) H3 else B D (σ.set i (some v)) H3) : gName i v σ H (tIfS (tTest (tOp r te tr)) A B D) := h
theorem g_unf {i : Nat} {v : V} {te : TE} {g : TG} {u : TS} {D : Ends} {σ : L2.St} {H : Hp} (h : te (σ.set i (some v)) H fun w H' => g w (σ.set i (some v)) H' (u D)) : gName i v σ H (tSeq (tAsg te g) u D) := h
theorem seq_unf {te : TE} {g : TG} {u : TS} {D : Ends} {σ : L2.St} {H : Hp} (h : te σ H fun w H' => g w σ H' (u D)) : tSeq (tAsg te g) u D σ H := h
theorem g_seq {i : Nat} {v : V} {s u : TS} {D : Ends} {σ : L2.St} {H : Hp} (h : s { D with nx := u D } (σ.set i (some v)) H) : gName i v σ H (tSeq s u D) := h
theorem seq_ifop {r : L2.R2} {te tr : TE} {A B u : TS} {D : Ends} {σ : L2.St} {H : Hp} (h : te σ H fun x H1 => tr σ H1 fun y H2 => r x y H2 fun v H3 => ∃ b, v = .bl b ∧ if b = true then A { D with nx := u D } σ H3 else B { D with nx := u D } σ H3) : tSeq (tIfS (tTest (tOp r te tr)) A B) u D σ H := h
theorem neD_rep {K : PySem.W.Frag} {H : Hp} {D D2 : Addr} {r : List V} {n : Nat} {Q : VK} (h : DL H D (List.replicate n r)) (h2 : DL H D2 (List.replicate n r)) (o : r.all okV = true) (sh : SeqAt.shaped (pdL (List.replicate n r)) = true) (e : PyData.eqv (pdL (List.replicate n r)) (pdL (List.replicate n r)) = true) (q : Q (.bl false) H) : rNeD K (.ref D) (.ref D2) H Q := by
  have o' : ((List.replicate n r).all fun r => r.all okV) = true := List.all_eq_true.mpr fun z hz => by rw [(List.mem_replicate.mp hz).2]; exact o
  refine neD_DL h h2 o' o' sh sh ?_
  rw [e]; exact q
theorem small1000 {n : Nat} (h : n ≤ 1000) : n < sizeLine := Nat.lt_of_le_of_lt h (by decide)
theorem te_any {te : TE} {σ : L2.St} {H : Hp} {Q : VK} (C : V → Hp → Prop) (h1 : ∀ Q7 : VK, (∀ v H, C v H → Q7 v H) → te σ H Q7) (h2 : ∀ v H, C v H → Q v H) : te σ H Q := h1 Q h2
theorem lst_one {te : TE} {σ : L2.St} {H : Hp} {Q : VK} (C : V → Hp → Prop) (h1 : ∀ Q7 : VK, (∀ v H, C v H → Q7 v H) → te σ H Q7) (h2 : ∀ v H, C v H → ∀ TL, H TL = none → Q (.ref TL) (upd H TL (.lst [v]))) : tLst (tCons te tNil) σ H Q := h1 _ fun v H c => ⟨by show 1 ≤ sizeLine; decide, fun TL n => h2 v H c TL n⟩
theorem app_one {K : PySem.W.Frag} {te : TE} {σ : L2.St} {H : Hp} {D : Ends} {j : Nat} {W : Addr} {xs : List V} (C : V → Hp → Prop) (hj : σ[j]? = some (some (.ref W))) (hl : H W = some (.lst xs)) (h1 : ∀ Q7 : VK, (∀ v H, C v H → Q7 v H) → te σ H Q7)
    (h2 : ∀ v H', C v H' → ∃ ys, H' W = some (.lst ys) ∧ ys.length ≤ 1000 ∧ D.nx σ (upd H' W (.lst (ys ++ [v])))) : tDrop (tBM K "list" rAppend (tVar j) (tCons te tNil)) D σ H :=
  ⟨_, hj, .inl ⟨rfl, _, SqL.of hl⟩, h1 _ fun v H' c => by
    obtain ⟨ys, e, l, q⟩ := h2 v H' c
    exact ⟨W, _, _, rfl, rfl, e, Nat.lt_of_le_of_lt l (by decide), q⟩⟩
theorem app_one' {K : PySem.W.Frag} {te : TE} {σ : L2.St} {H : Hp} {D : Ends} {u : TS} {j : Nat} {W : Addr} {xs : List V} (C : V → Hp → Prop) (hj : σ[j]? = some (some (.ref W))) (hl : H W = some (.lst xs)) (h1 : ∀ Q7 : VK, (∀ v H, C v H → Q7 v H) → te σ H Q7)
    (h2 : ∀ v H', C v H' → ∃ ys, H' W = some (.lst ys) ∧ ys.length ≤ 1000 ∧ u D σ (upd H' W (.lst (ys ++ [v])))) : tSeq (tDrop (tBM K "list" rAppend (tVar j) (tCons te tNil))) u D σ H :=
  app_one (D := { D with nx := u D }) C hj hl h1 h2
theorem seq_alike {te1 te2 : TE} {A u : TS} {D : Ends} {σ : L2.St} {H : Hp} (C1 : V → Hp → Prop) (C2 : V → V → Hp → Prop) (h1 : ∀ Q : VK, (∀ v H', C1 v H' → Q v H') → te1 σ H Q) (h2 : ∀ x H', C1 x H' → ∀ Q : VK, (∀ v H'', C2 x v H'' → Q v H'') → te2 σ H' Q)
    (h3 : ∀ x v H', C2 x v H' → R2 x v H' ∧ ∀ H'', Same H' H'' → u D σ H'') : tSeq (tIfS (tNot (tB (tCall (spAk R2) [] E0 (tCons te1 (tCons te2 tNil))))) A tNext) u D σ H :=
  h1 _ fun x H1 c1 => h2 x H1 c1 _ fun v H2 c2 => ⟨x, v, rfl, (h3 x v H2 c2).1, fun H3 s => ⟨_, rfl, ifF rfl ((h3 x v H2 c2).2 H3 s)⟩⟩
theorem alikeI {te1 te2 : TE} {σ : L2.St} {H : Hp} {k : Bool → Hp → Prop} (n : Int) (h1 : ∀ Q : VK, (∀ H', Same H H' → Q (.int n) H') → te1 σ H Q) (h2 : ∀ H', Same H H' → ∀ Q : VK, (∀ H'', Same H H'' → Q (.int n) H'') → te2 σ H' Q)
    (h3 : ∀ H', Same H H' → k false H') : tNot (tB (tCall (spAk R2) [] E0 (tCons te1 (tCons te2 tNil)))) σ H k :=
  h1 _ fun H1 s1 => h2 H1 s1 _ fun H2 s2 => ⟨_, _, rfl, .inl ⟨rfl, .inl ⟨_, rfl⟩⟩, fun H3 s3 => ⟨_, rfl, h3 H3 (s2.trans s3)⟩⟩
theorem tif_or {c1 c2 : TT} {A B : TS} {D : Ends} {σ : L2.St} {H : Hp} (h : c1 σ H fun b H1 => if b = true then (if true = true then A D σ H1 else B D σ H1) else c2 σ H1 fun b H2 => if b = true then A D σ H2 else B D σ H2) : tIfS (tOr c1 c2) A B D σ H := h
theorem tif_one {c : TT} {A B : TS} {D : Ends} {σ : L2.St} {H : Hp} (h : c σ H fun b H1 => if b = true then A D σ H1 else B D σ H1) : tIfS c A B D σ H := h
theorem seq_one {c : TT} {A u : TS} {D : Ends} {σ : L2.St} {H : Hp} (h : c σ H fun b H1 => if b = true then A { D with nx := u D } σ H1 else u D σ H1) : tSeq (tIfS c A tNext) u D σ H := h
theorem pow6 : (10 : Int) ^ (6 : Int).toNat = 1000000 := by decide
theorem CH.twice {cs : List Int} (c : CH cs) (l : cs.length ≤ 6) : CH ((cs ++ cs).take 6) ∧ ((cs ++ cs).take 6).length ≤ 6 := by
  have e : ((cs ++ cs).take 6).length = min 6 (cs.length + cs.length) := by rw [List.length_take, List.length_append]
  have := c.1
  refine ⟨⟨by omega, by omega, fun x hx => ?_⟩, by omega⟩
  rcases List.mem_append.mp (List.mem_of_mem_take hx) with h | h <;> exact c.2.2 x h
theorem bool_iff {b c : Bool} {p : Prop} (h : b = true ↔ p) (g : c = true ↔ p) : b = c := by
  cases b <;> cases c <;> simp_all
theorem lcm24 {m k : Nat} (h1 : 1 ≤ m) (h2 : 1 ≤ k) (a : m ≤ 6) (b : k ≤ 6) : Nat.lcm m k ≤ 60 := Nat.le_trans (Nat.lcm_le_mul (by omega) (by omega)) (Nat.le_trans (Nat.mul_le_mul a b) (by decide))
theorem at_mod2 (cs : List Int) (m : Nat) (c1 : 1 ≤ cs.length) : atI (cs.map V.int) ((m : Int) % (((cs.map V.int).length : Nat) : Int)) = some (V.int (Th.chAt cs m)) := by
  have := at_mod cs m c1
  rw [Int.zero_add] at this
  exact this
theorem tcons_any {te : TE} {tt : TA} {σ : L2.St} {H : Hp} {R : List V → Hp → Prop} (C : V → Hp → Prop) (h1 : ∀ Q7 : VK, (∀ v H, C v H → Q7 v H) → te σ H Q7) (h2 : ∀ v H', C v H' → tt σ H' fun vs H2 => R (v :: vs) H2) : tCons te tt σ H R := h1 _ h2
theorem ret_op {r : L2.R2} {te tr : TE} {D : Ends} {σ : L2.St} {H : Hp} (h : te σ H fun x H1 => tr σ H1 fun y H2 => r x y H2 D.rt) : tRet (tOp r te tr) D σ H := h
theorem or_step {c1 c2 : TT} {σ : L2.St} {H : Hp} {Q : Bool → Hp → Prop} (h : c1 σ H fun b H1 => if b = true then Q true H1 else c2 σ H1 Q) : tOr c1 c2 σ H Q := h
theorem not_alike {te1 te2 : TE} {σ : L2.St} {H : Hp} {k : Bool → Hp → Prop} (C1 : V → Hp → Prop) (C2 : V → V → Hp → Prop) (h1 : ∀ Q : VK, (∀ v H', C1 v H' → Q v H') → te1 σ H Q) (h2 : ∀ x H', C1 x H' → ∀ Q : VK, (∀ v H'', C2 x v H'' → Q v H'') → te2 σ H' Q)
    (h3 : ∀ x v H', C2 x v H' → R2 x v H' ∧ ∀ H'', Same H' H'' → k false H'') : tNot (tB (tCall (spAk R2) [] E0 (tCons te1 (tCons te2 tNil)))) σ H k :=
  h1 _ fun x H1 c1 => h2 x H1 c1 _ fun v H2 c2 => ⟨x, v, rfl, (h3 x v H2 c2).1, fun H3 s => ⟨_, rfl, (h3 x v H2 c2).2 H3 s⟩⟩
theorem r2_ints {H : Hp} {p q : Addr} {ns : List Int} (l : ns.length ≤ 1000000) (hp : H p = some (.tup (ns.map V.int))) (hq : H q = some (.tup (ns.map V.int))) : R2 (.ref p) (.ref q) H :=
  .inr ⟨p, q, _, _, rfl, rfl, ⟨rfl, by rw [List.length_map]; exact l, fun i u v hu hv => by
    rw [hu] at hv
    cases hv
    rw [List.getElem?_map] at hu
    cases e : ns[i]? with
    | none => rw [e] at hu; cases hu
    | some n => rw [e] at hu; cases hu; exact .inl ⟨rfl, .inl ⟨n, rfl⟩⟩⟩, .inr ⟨hp, hq⟩⟩
theorem sameExt {H H' : Hp} (s : Same H H') : ExtN H H' := fun b o e _ => s b o e
end W6

namespace W6
open PySem PySem.Spec PyProof.Rows L2 Ru StX LamX
def mulL (cs : List Int) (n : Int) : List Int := cs.map fun c => c * n
/-- what the written part says of the class of weathers by its operators -/
structure WMu (K : PySem.W.Frag) (a : Ad) : Prop where
  hm : mroHd K a.c_Weather = true
  mul : MulC K a.c_Weather a.f_Weather_mul
section
variable (a : Ad)
def spWlen : Sp := fun vs H Q _ => ∃ (z : Addr) (cs : List Int), vs = [.ref z] ∧ WAt a H z cs ∧ Q (.int (cs.length : Nat)) H
def spAddN : Sp := fun vs H Q _ => ∃ (y z : Addr) (cs ds : List Int), vs = [.ref y, .ref z] ∧ WAt a H y cs ∧ WAt a H z ds ∧ CH cs ∧ CH ds ∧ CH (addR cs ds) ∧ ∀ v H', Same H H' → WAt a H' v (addR cs ds) → Q (.ref v) H'
def spMulN : Sp := fun vs H Q _ => ∃ (z : Addr) (cs : List Int) (n : Int), vs = [.ref z, .int n] ∧ WAt a H z cs ∧ CH cs ∧ CH (mulL cs n) ∧ ∀ v H', Same H H' → WAt a H' v (mulL cs n) → Q (.ref v) H'
/-- one tick's change is 1 -/
def unitL (n k : Nat) : List Int := (List.range n).map fun j => if j = k then 1 else 0
def spSingle : Sp := fun vs H Q _ => ∃ (n k : Nat), vs = [.int n, .int k] ∧ 1 ≤ n ∧ n ≤ 5 ∧ k < n ∧ ∀ z H', Same H H' → WAt a H' z (unitL n k) → Q (.ref z) H'
def spWthr : Sp := fun vs H Q _ => ∃ (l : Addr) (cs : List Int), vs = [.ref l] ∧ H l = some (.lst (cs.map V.int)) ∧ CH cs ∧ cs.length ≤ 5 ∧ ∀ z H', Same H H' → WAt a H' z cs → Q (.ref z) H'
end
theorem intAt {cs : List Int} {j : Nat} {v : V} (h : (cs.map V.int)[j]? = some v) : ∃ c, cs[j]? = some c ∧ v = .int c := by
  rw [List.getElem?_map] at h
  cases e : cs[j]? with
  | none => rw [e] at h; cases h
  | some c => rw [e] at h; exact ⟨c, rfl, (Option.some.inj h).symm⟩
/-! lists of changes, one after another -/
theorem unitL_len (n k : Nat) : (unitL n k).length = n := by rw [unitL, List.length_map, List.length_range]
theorem ch_of {n : Nat} {f : Nat → Int} (h1 : 1 ≤ n) (h2 : n ≤ 24) (h : ∀ j, j < n → -100 ≤ f j ∧ f j ≤ 100) : CH ((List.range n).map f) :=
  ⟨by rw [List.length_map, List.length_range]; exact h1, by rw [List.length_map, List.length_range]; exact h2, fun c hc => by
    obtain ⟨j, hj, rfl⟩ := List.mem_map.mp hc
    exact h j (List.mem_range.mp hj)⟩
theorem unit_mul (n k : Nat) (c : Int) : mulL (unitL n k) c = (List.range n).map fun j => if j = k then c else 0 := by
  unfold mulL unitL
  rw [List.map_map]
  refine List.map_congr_left fun j _ => ?_
  show (if j = k then (1 : Int) else 0) * c = _
  split <;> simp
/-- the changes before the k-th -/
def partL (cs : List Int) (k : Nat) : List Int := (List.range cs.length).map fun j => if j < k then cs.getD j 0 else 0
theorem partL_len (cs : List Int) (k : Nat) : (partL cs k).length = cs.length := by rw [partL, List.length_map, List.length_range]
theorem partL_all (cs : List Int) : partL cs cs.length = cs := by
  refine List.ext_getElem (partL_len cs _) fun i h1 h2 => ?_
  simp [partL, h2]
/-- what the sum is before the k-th -/
def Sofar (cs : List Int) (k : Nat) (ds : List Int) : Prop := (ds = [0] ∧ ∀ j, j < k → cs.getD j 0 = 0) ∨ ds = partL cs k
theorem Sofar.at {cs ds : List Int} {k : Nat} (h : Sofar cs k ds) (hn : 1 ≤ cs.length) {t : Nat} (ht : t < cs.length) : ds.getD (t % ds.length) 0 = if t < k then cs.getD t 0 else 0 := by
  rcases h with ⟨rfl, z⟩ | rfl
  · have : t % ([0] : List Int).length = 0 := Nat.mod_one t
    rw [this]
    by_cases q : t < k
    · rw [if_pos q, z t q]; rfl
    · rw [if_neg q]; rfl
  · rw [partL_len, Nat.mod_eq_of_lt ht]
    simp [partL, ht]
theorem Sofar.len {cs ds : List Int} {k : Nat} (h : Sofar cs k ds) (hn : 1 ≤ cs.length) : 1 ≤ ds.length ∧ Nat.lcm ds.length cs.length = cs.length := by
  rcases h with ⟨rfl, z⟩ | rfl
  · exact ⟨by decide, Nat.lcm_one_left _⟩
  · rw [partL_len]
    exact ⟨hn, Nat.lcm_self _⟩
theorem Sofar.ch {cs ds : List Int} {k : Nat} (h : Sofar cs k ds) (c : CH cs) : CH ds := by
  rcases h with ⟨rfl, z⟩ | rfl
  · exact ⟨by decide, by decide, fun c hc => by obtain rfl := List.mem_singleton.mp hc; decide⟩
  · refine ch_of c.1 c.2.1 fun j hj => ?_
    split
    · refine c.2.2 _ ?_
      rw [List.getD_eq_getElem?_getD, List.getElem?_eq_getElem hj]
      exact List.getElem_mem hj
    · decide
theorem Sofar.skip {cs ds : List Int} {k : Nat} (h : Sofar cs k ds) (z : cs.getD k 0 = 0) : Sofar cs (k + 1) ds := by
  rcases h with ⟨rfl, a⟩ | rfl
  · refine .inl ⟨rfl, fun j hj => ?_⟩
    by_cases q : j < k
    · exact a j q
    · rw [show j = k by omega]; exact z
  · refine .inr ?_
    unfold partL
    refine List.map_congr_left fun j _ => ?_
    by_cases q : j < k
    · rw [if_pos q, if_pos (by omega)]
    · rw [if_neg q]
      by_cases q2 : j = k
      · subst q2; rw [if_pos (by omega), z]
      · rw [if_neg (by omega)]
theorem Sofar.add {cs ds : List Int} {k : Nat} (h : Sofar cs k ds) (hn : 1 ≤ cs.length) (c : Int) : addR ds (mulL (unitL cs.length k) c) = (List.range cs.length).map fun j => (if j < k then cs.getD j 0 else 0) + (if j = k then c else 0) := by
  obtain ⟨_, l⟩ := h.len hn
  rw [unit_mul]
  unfold addR
  rw [List.length_map, List.length_range, l]
  refine List.map_congr_left fun j hj => ?_
  have hj := List.mem_range.mp hj
  rw [h.at hn hj, Nat.mod_eq_of_lt hj]
  simp [hj]
theorem Sofar.next {cs ds : List Int} {k : Nat} (h : Sofar cs k ds) (hn : 1 ≤ cs.length) : addR ds (mulL (unitL cs.length k) (cs.getD k 0)) = partL cs (k + 1) := by
  rw [h.add hn]
  unfold partL
  refine List.map_congr_left fun j _ => ?_
  by_cases q : j < k
  · rw [if_pos q, if_neg (by omega), if_pos (by omega)]; simp
  · by_cases q2 : j = k
    · subst q2; rw [if_neg q, if_pos rfl, if_pos (by omega)]; simp
    · rw [if_neg q, if_neg q2, if_neg (by omega)]; rfl
theorem Sofar.end' {cs ds : List Int} (h : Sofar cs cs.length ds) (l : ds.length = cs.length) : ds = cs := by
  rcases h with ⟨rfl, z⟩ | rfl
  · match cs, l, z with
    | [c], _, z =>
      have := z 0 (by show 0 < 1; decide)
      have e : c = 0 := this
      rw [e]
  · exact partL_all cs
theorem Sofar.last {cs ds : List Int} (h : Sofar cs cs.length ds) (hn : 1 ≤ cs.length) : addR ds (mulL (unitL cs.length 0) 0) = cs := by
  refine Eq.trans ?_ (partL_all cs)
  unfold partL
  rw [unit_mul]
  unfold addR
  obtain ⟨_, l⟩ := h.len hn
  rw [List.length_map, List.length_range, l]
  refine List.map_congr_left fun j hj => ?_
  have hj := List.mem_range.mp hj
  rw [h.at hn hj, Nat.mod_eq_of_lt hj]
  simp [hj]
theorem weather_in {a : Ad} {H : Hp} {x dx : Addr} {R : VK} {E : XK} {cs : List Int} (c : CH cs) (nx : H x = none) (nd : H dx = none) (ne : dx ≠ x) (k : ∀ H', Same H H' → WAt a H' x cs → R .non H') : spWs a (V.ref x :: cs.map V.int) (upd (upd H dx (.own x)) x (.ins a.c_Weather dx [])) R E := by
  refine ⟨[.ref x], cs.map V.int, rfl, rfl, by rw [List.length_map]; exact Nat.le_of_lt (small1000 (by have := c.2.1; omega)), fun p hp => ?_⟩
  have npx : x ≠ p := ne_of_none upd_same hp
  have s1 := same_upd (o := .tup (cs.map V.int)) hp
  exact ⟨x, dx, p, cs, rfl, s1 _ _ upd_same, upd_same, c, fun H' fr wt => k H' (Fr1.made nx nd ((Fr1.of s1).trans fr)) wt⟩
section
variable {P : Program} {w : World} {K : PySem.W.Frag} {mg : Str → Option Value} {base : Heap} {a : Ad}
theorem ok_Weather_len (T : Txt K mg a) : FnOk P w K mg base CX0 1 a.f_Weather_len a.d_Weather_len ["self"] (spWlen a) := by
  refine T.F_Weather_len.ok sc_Weather_len (fun vs H Q E h => ?_) (fun cdv A outer s H vs Q E hr h => ?_)
  · obtain ⟨z, cs, rfl, _⟩ := h
    rfl
  · obtain ⟨z, cs, rfl, ⟨dx, t, hz, ht⟩, k⟩ := h
    refine ⟨_, (pss_one (ps_ret (pe_callB call_len_seq (by rfl) T.z_len PySem.boot_len (pa_cons (pe_fld (pv 0) rfl) pa_nil)))), ?_⟩
    refine ⟨_, rfl, z, _, dx, _, _, rfl, hz, T.cl_Weather, T.na_Weather__changes, rfl, t, _, rfl, .inr (SqT.of ht), ?_⟩
    rw [List.length_map]
    exact k
theorem ok_Weather_add (T : Txt K mg a) : FnOk P w K mg base CX0 4 a.f_Weather_add a.d_Weather_add ["self", "other"] (spAddN a) := by
  have G_Weather_init : FnR P w K mg base CX0 2 a.f_Weather_init (spWs a) := ok_Weather_init T
  have G_added_rounds : FnOk P w K mg base CX0 1 a.f_added_rounds a.d_added_rounds ["one", "other"] spAddR := ok_added_rounds T
  have G_Weather_changes : FnOk P w K mg base CX0 1 a.f_Weather_changes a.d_Weather_changes ["self"] (getSp a.c_Weather "_changes") := ok_Weather_changes T
  refine T.F_Weather_add.ok sc_Weather_add (fun vs H Q E h => ?_) (fun cdv A outer s H vs Q E hr h => ?_)
  · obtain ⟨y, z, cs, ds, rfl, _⟩ := h
    rfl
  · obtain ⟨y, z, cs, ds, rfl, ⟨dy, t, hy, ht⟩, ⟨dz, u, hz, hu⟩, c, d, cc, k⟩ := h
    refine ⟨_, (pss_cons (ps_set (i := 2) sc_Weather_add.nd rfl (Or.inl rfl) (pe_call G_added_rounds (hr.mono (by decide)) (by rfl) T.mg_added_rounds T.F_added_rounds.kp (b_added_rounds T) .nil pass0 (pa_cons (pe_fld (pv 0) rfl) (pa_cons (pe_prop (pv 1) T.cl_Weather T.pr_Weather_changes G_Weather_changes (hr.mono (by decide)) (b_Weather_changes T) .nil pass0 rfl) pa_nil))))
      (pss_one (ps_ret (pe_makeSt T.mk_Weather G_Weather_init (hr.mono (by decide)) (by rfl) T.mg_Weather pass0 (pv 2))))), ?_⟩
    refine ⟨_, rfl, y, _, dy, _, _, rfl, hy, T.cl_Weather, T.na_Weather__changes, rfl, _, rfl, z, dz, _, rfl, hz, z, dz, _, _, rfl, hz, rfl, t, u, cs, ds, rfl, ht, hu, c.1, c.2.1, d.1, d.2.1, fun p H' sm hp => ?_⟩
    exact ⟨_, rfl, p, _, rfl, .inr (SqL.of hp), weather_made cc fun v H2 s2 wt => k v H2 (sm.trans s2) wt⟩
theorem ok_Weather_mul (T : Txt K mg a) : FnOk P w K mg base CX0 4 a.f_Weather_mul a.d_Weather_mul ["self", "times"] (spMulN a) := by
  have G_Weather_init : FnR P w K mg base CX0 2 a.f_Weather_init (spWs a) := ok_Weather_init T
  refine T.F_Weather_mul.ok sc_Weather_mul (fun vs H Q E h => ?_) (fun cdv A outer s H vs Q E hr h => ?_)
  · obtain ⟨z, cs, n, rfl, _⟩ := h
    rfl
  · obtain ⟨z, cs, n, rfl, ⟨dz, t, hz, ht⟩, cc, cm, k⟩ := h
    refine ⟨_, (pss_cons (ps_setLc (i := 2) (own := [("change", 3)]) (g := gName 3) rfl sc_Weather_mul.nd rfl rfl (sw_true rfl rfl rfl (by decide +kernel)) (pi_tup (pe_fld (pv 0) rfl)) (blkOk_by (own := [("change", 3)]) (N := ["self", "times", "multiplied", "change"]) (sc := (defScope s_Weather_mul)) (by decide +kernel)) (fun _ _ _ _ _ => pg_name (i := 3) sc_Weather_mul.nd rfl (Or.inl rfl)) (fun _ _ _ _ _ => pts_nil) (fun _ _ _ _ _ => (pe_op op_mul (pv 3) (pv 1))))
      (pss_one (ps_ret (pe_makeSt T.mk_Weather G_Weather_init (hr.mono (by decide)) (by rfl) T.mg_Weather pass0 (pv 2))))), ?_⟩
    refine ⟨_, rfl, z, _, dz, _, _, rfl, hz, T.cl_Weather, T.na_Weather__changes, rfl, t, rfl, ⟨_, SqT.of ht⟩, fun D nD => lc_tup (K := K) (a := t) (xs := cs.map V.int) (fun i H2 => Same H H2 ∧ H2 D = some (.lst (((cs.take i).map fun c => c * n).map V.int))) ⟨same_upd nD, upd_same⟩ (fun j H2 _ q => SqT.of (q.1 _ _ ht)) ?_ ?_⟩
    · rintro j v H2 hx ⟨s2, hD⟩
      obtain ⟨c, hc, rfl⟩ := intAt hx
      refine ⟨rfl, _, rfl, _, rfl, _, _, rfl, rfl, (.inl (by have := cc.2.2 c (List.mem_of_getElem? hc); constructor <;> omega)), _, hD, by rw [List.length_map, List.length_map]; exact Nat.lt_of_le_of_lt (Nat.le_trans (List.length_take_le' _ _) (Nat.le_trans cc.2.1 (by decide : 24 ≤ 1000))) (by decide), fun b u e => by rw [upd_ne (ne_of_none e nD)]; exact s2 _ _ e, ?_⟩
      rw [upd_same, List.take_succ, hc]
      simp
    · rintro H2 ⟨s2, hD⟩
      rw [List.length_map, List.take_length] at hD
      exact ⟨_, rfl, D, _, rfl, .inr (SqL.of hD), weather_made (cs := mulL cs n) cm fun v H3 s3 wt => k v H3 (s2.trans s3) wt⟩
theorem ok__law_single (T : Txt K mg a) : FnOk P w K mg base CX0 4 a.f__law_single a.d__law_single ["_law_size", "_law_at"] (spSingle a) := by
  have G_Weather_init : FnR P w K mg base CX0 2 a.f_Weather_init (spWs a) := ok_Weather_init T
  refine T.F__law_single.ok sc__law_single (fun vs H Q E h => ?_) (fun cdv A outer s H vs Q E hr h => ?_)
  · obtain ⟨n, k, rfl, _⟩ := h
    rfl
  · obtain ⟨n, k, rfl, n1, n5, kn, g⟩ := h
    refine ⟨_, (pss_cons (ps_setLc (i := 2) (own := [("_law_k", 3)]) (g := gName 3) rfl sc__law_single.nd rfl rfl (sw_true rfl rfl rfl (by decide +kernel)) (pi_range1 (by rfl) T.z_range (pa_cons (pv 0) pa_nil)) (blkOk_by (own := [("_law_k", 3)]) (N := ["_law_size", "_law_at", "_law_parts", "_law_k"]) (sc := (defScope s__law_single)) (by decide +kernel)) (fun _ _ _ _ _ => pg_name (i := 3) sc__law_single.nd rfl (Or.inl rfl)) (fun _ _ _ _ _ => pts_nil) (fun _ _ _ _ _ => (pe_callTy call_int1 (by rfl) T.z_int (by decide +kernel) (pa_cons (pe_cmpR op_eq (pv 3) (pv 1) (nomark _)) pa_nil))))
      (pss_cons (ps_if (pt_cmpR op_eq (pv 0) pe_int (nomark _)) (pss_one (ps_ret (pe_makeR T.mk_Weather G_Weather_init (hr.mono (by decide)) (by rfl) T.mg_Weather pass0 (pa_cons (pe_ix ix_list (pv 2) pe_int (fun _ _ => rfl)) pa_nil)))) pss_nil)
      (pss_cons (ps_if (pt_cmpR op_eq (pv 0) pe_int (nomark _)) (pss_one (ps_ret (pe_makeR T.mk_Weather G_Weather_init (hr.mono (by decide)) (by rfl) T.mg_Weather pass0 (pa_cons (pe_ix ix_list (pv 2) pe_int (fun _ _ => rfl)) (pa_cons (pe_ix ix_list (pv 2) pe_int (fun _ _ => rfl)) pa_nil))))) pss_nil)
      (pss_cons (ps_if (pt_cmpR op_eq (pv 0) pe_int (nomark _)) (pss_one (ps_ret (pe_makeR T.mk_Weather G_Weather_init (hr.mono (by decide)) (by rfl) T.mg_Weather pass0 (pa_cons (pe_ix ix_list (pv 2) pe_int (fun _ _ => rfl)) (pa_cons (pe_ix ix_list (pv 2) pe_int (fun _ _ => rfl)) (pa_cons (pe_ix ix_list (pv 2) pe_int (fun _ _ => rfl)) pa_nil)))))) pss_nil)
      (pss_cons (ps_if (pt_cmpR op_eq (pv 0) pe_int (nomark _)) (pss_one (ps_ret (pe_makeR T.mk_Weather G_Weather_init (hr.mono (by decide)) (by rfl) T.mg_Weather pass0 (pa_cons (pe_ix ix_list (pv 2) pe_int (fun _ _ => rfl)) (pa_cons (pe_ix ix_list (pv 2) pe_int (fun _ _ => rfl)) (pa_cons (pe_ix ix_list (pv 2) pe_int (fun _ _ => rfl)) (pa_cons (pe_ix ix_list (pv 2) pe_int (fun _ _ => rfl)) pa_nil))))))) pss_nil)
      (pss_one (ps_ret (pe_makeR T.mk_Weather G_Weather_init (hr.mono (by decide)) (by rfl) T.mg_Weather pass0 (pa_cons (pe_ix ix_list (pv 2) pe_int (fun _ _ => rfl)) (pa_cons (pe_ix ix_list (pv 2) pe_int (fun _ _ => rfl)) (pa_cons (pe_ix ix_list (pv 2) pe_int (fun _ _ => rfl)) (pa_cons (pe_ix ix_list (pv 2) pe_int (fun _ _ => rfl)) (pa_cons (pe_ix ix_list (pv 2) pe_int (fun _ _ => rfl)) pa_nil))))))))))))), ?_⟩
    refine ⟨_, rfl, ((n : Nat) : Int), rfl, by omega, by omega, fun D nD => lc_range (lo := 0) (n := ((n : Nat) : Int).toNat) (fun i H' => Same H H' ∧ H' D = some (.lst (((List.range i).map fun j => if j = k then (1 : Int) else 0).map V.int))) ⟨same_upd nD, upd_same⟩ ?_ ?_⟩
    · rintro i H' hi ⟨s1, hD⟩
      have hi : i < n := by omega
      refine ⟨rfl, _, rfl, _, rfl, rfl, .inr ⟨_, rfl, _, hD, by rw [List.length_map, List.length_map, List.length_range]; exact small1000 (by omega), lcStep' nD s1, ?_⟩⟩
      rw [upd_same, List.range_succ, List.map_append, List.map_append]
      have e : decide (V.int (0 + (i : Int)) = V.int (k : Int)) = decide (i = k) := by
        by_cases q : i = k
        · rw [decide_eq_true q, decide_eq_true (by rw [q, Int.zero_add])]
        · rw [decide_eq_false q, decide_eq_false (fun z => by injection z with z; omega)]
      rw [e]
      by_cases q : i = k
      · subst q; simp
      · rw [decide_eq_false q]; simp [q]
    · rintro H1 ⟨s1, hD⟩
      have hD : H1 D = some (.lst ((unitL n k).map V.int)) := hD
      have ul := unitL_len n k
      have cu : CH (unitL n k) := ch_of n1 (by omega) fun j _ => by split <;> decide
      have kk : ∀ z H', Same H1 H' → WAt a H' z (unitL n k) → Q (.ref z) H' := fun z H' s wt => g z H' (s1.trans s) wt
      generalize unitL n k = us at *
      match us, n, ul, n5 with
      | [], n, ul, _ => exact absurd cu.1 (by decide)
      | [u], _, rfl, _ =>
        refine ⟨_, rfl, rfl, _, rfl, ifT rfl ?_⟩
        exact ⟨_, rfl, D, _, _, _, rfl, rfl, SqL.of hD, rfl, weather_made (cs := [u]) cu kk⟩
      | [u, v], _, rfl, _ =>
        refine ⟨_, rfl, rfl, _, rfl, ifF rfl ?_⟩
        refine ⟨_, rfl, rfl, _, rfl, ifT rfl ?_⟩
        exact ⟨_, rfl, D, _, _, _, rfl, rfl, SqL.of hD, rfl, _, rfl, D, _, _, _, rfl, rfl, SqL.of hD, rfl, weather_made (cs := [u, v]) cu kk⟩
      | [u, v, x], _, rfl, _ =>
        refine ⟨_, rfl, rfl, _, rfl, ifF rfl ?_⟩
        refine ⟨_, rfl, rfl, _, rfl, ifF rfl ?_⟩
        refine ⟨_, rfl, rfl, _, rfl, ifT rfl ?_⟩
        exact ⟨_, rfl, D, _, _, _, rfl, rfl, SqL.of hD, rfl, _, rfl, D, _, _, _, rfl, rfl, SqL.of hD, rfl, _, rfl, D, _, _, _, rfl, rfl, SqL.of hD, rfl, weather_made (cs := [u, v, x]) cu kk⟩
      | [u, v, x, y], _, rfl, _ =>
        refine ⟨_, rfl, rfl, _, rfl, ifF rfl ?_⟩
        refine ⟨_, rfl, rfl, _, rfl, ifF rfl ?_⟩
        refine ⟨_, rfl, rfl, _, rfl, ifF rfl ?_⟩
        refine ⟨_, rfl, rfl, _, rfl, ifT rfl ?_⟩
        exact ⟨_, rfl, D, _, _, _, rfl, rfl, SqL.of hD, rfl, _, rfl, D, _, _, _, rfl, rfl, SqL.of hD, rfl, _, rfl, D, _, _, _, rfl, rfl, SqL.of hD, rfl, _, rfl, D, _, _, _, rfl, rfl, SqL.of hD, rfl, weather_made (cs := [u, v, x, y]) cu kk⟩
      | [u, v, x, y, m], _, rfl, _ =>
        refine ⟨_, rfl, rfl, _, rfl, ifF rfl ?_⟩
        refine ⟨_, rfl, rfl, _, rfl, ifF rfl ?_⟩
        refine ⟨_, rfl, rfl, _, rfl, ifF rfl ?_⟩
        refine ⟨_, rfl, rfl, _, rfl, ifF rfl ?_⟩
        exact ⟨_, rfl, D, _, _, _, rfl, rfl, SqL.of hD, rfl, _, rfl, D, _, _, _, rfl, rfl, SqL.of hD, rfl, _, rfl, D, _, _, _, rfl, rfl, SqL.of hD, rfl, _, rfl, D, _, _, _, rfl, rfl, SqL.of hD, rfl, _, rfl, D, _, _, _, rfl, rfl, SqL.of hD, rfl, weather_made (cs := [u, v, x, y, m]) cu kk⟩
      | u :: v :: x :: y :: m :: o :: r, n, ul, n5 => simp at ul; omega
theorem ok__law_weather (T : Txt K mg a) (WM : WMu K a) : FnOk P w K mg base CX0 5 a.f__law_weather a.d__law_weather ["_law_changes_here"] (spWthr a) := by
  have G_Weather_init : FnR P w K mg base CX0 2 a.f_Weather_init (spWs a) := ok_Weather_init T
  have G_Weather_len : FnOk P w K mg base CX0 1 a.f_Weather_len a.d_Weather_len ["self"] (spWlen a) := ok_Weather_len T
  have G_Weather_add : FnOk P w K mg base CX0 4 a.f_Weather_add a.d_Weather_add ["self", "other"] (spAddN a) := ok_Weather_add T
  have G_Weather_mul : FnOk P w K mg base CX0 4 a.f_Weather_mul a.d_Weather_mul ["self", "times"] (spMulN a) := ok_Weather_mul T
  have G__law_single : FnOk P w K mg base CX0 4 a.f__law_single a.d__law_single ["_law_size", "_law_at"] (spSingle a) := ok__law_single T
  refine T.F__law_weather.ok sc__law_weather (fun vs H Q E h => ?_) (fun cdv A outer s H vs Q E hr h => ?_)
  · obtain ⟨l, cs, rfl, _⟩ := h
    rfl
  · obtain ⟨l, cs, rfl, hl, c, c5, k⟩ := h
    refine ⟨_, (pss_cons (ps_set (i := 1) sc__law_weather.nd rfl (Or.inl rfl) (pe_makeR T.mk_Weather G_Weather_init (hr.mono (by decide)) (by rfl) T.mg_Weather pass0 (pa_cons pe_int pa_nil)))
      (pss_cons (ps_for PassesOwn.never rfl (pi_range1 (by rfl) T.z_range (pa_cons (pe_callB call_len_seq (by rfl) T.z_len PySem.boot_len (pa_cons (pv 0) pa_nil)) pa_nil)) (pg_name (i := 2) sc__law_weather.nd rfl (Or.inl rfl))
        (pss_one (ps_if (pt_cmpR op_ne (pe_ix ix_list (pv 0) (pv 2) (fun _ _ => rfl)) pe_int (nomark _)) (pss_one (ps_set (i := 1) sc__law_weather.nd rfl (Or.inl rfl) (pe_op (op_ownAdd WM.hm T.me_Weather_add G_Weather_add (b_Weather_add T) (hr.mono (by decide)) pass0) (pv 1) (pe_op (op_ownMul WM.mul G_Weather_mul (b_Weather_mul T) (hr.mono (by decide)) pass0) (pe_call G__law_single (hr.mono (by decide)) (by rfl) T.mg__law_single T.F__law_single.kp (b__law_single T) .nil pass0 (pa_cons (pe_callB call_len_seq (by rfl) T.z_len PySem.boot_len (pa_cons (pv 0) pa_nil)) (pa_cons (pv 2) pa_nil))) (pe_ix ix_list (pv 0) (pv 2) (fun _ _ => rfl)))))) pss_nil)))
      (pss_one (ps_ret (pe_ifExp (pt_cmpR op_eq (pe_callB (call_lenOwn T.me_Weather_len G_Weather_len (b_Weather_len T) (hr.mono (by decide)) pass0) (by rfl) T.z_len PySem.boot_len (pa_cons (pv 1) pa_nil)) (pe_callB call_len_seq (by rfl) T.z_len PySem.boot_len (pa_cons (pv 0) pa_nil)) (nomark _)) (pv 1) (pe_op (op_ownAdd WM.hm T.me_Weather_add G_Weather_add (b_Weather_add T) (hr.mono (by decide)) pass0) (pv 1) (pe_op (op_ownMul WM.mul G_Weather_mul (b_Weather_mul T) (hr.mono (by decide)) pass0) (pe_call G__law_single (hr.mono (by decide)) (by rfl) T.mg__law_single T.F__law_single.kp (b__law_single T) .nil pass0 (pa_cons (pe_callB call_len_seq (by rfl) T.z_len PySem.boot_len (pa_cons (pv 0) pa_nil)) (pa_cons pe_int pa_nil))) pe_int))))))), ?_⟩
    have n1 : (cs.map V.int).length = cs.length := List.length_map _
    have c1 := c.1
    refine fun z0 dz0 nz0 ndz0 ez0 => weather_in (cs := [0]) ⟨by decide, by decide, fun c hc => by obtain rfl := List.mem_singleton.mp hc; decide⟩ nz0 ndz0 ez0 fun H1 s1 w1 => ⟨rfl, ?_⟩
    refine ⟨_, rfl, l, _, rfl, .inl (SqL.of (s1 _ _ hl)), ((cs.length : Nat) : Int), by rw [n1], by omega, by omega, for_range (lo := 0) (n := ((cs.length : Nat) : Int).toNat) (fun i σ H' => ∃ z ds u, σ = [some (.ref l), some (.ref z), u] ∧ Same H H' ∧ WAt a H' z ds ∧ Sofar cs i ds) ⟨z0, [0], none, rfl, s1, w1, .inl ⟨rfl, fun j hj => absurd hj (Nat.not_lt_zero _)⟩⟩ ?_ ?_⟩
    · rintro i σ H2 hi ⟨z, ds, u, rfl, s2, w2, sf⟩
      have hi : i < cs.length := by omega
      have hl2 := s2 _ _ hl
      have e0 : (0 : Int) + (i : Int) = (i : Int) := Int.zero_add _
      have hc : cs[i]? = some (cs.getD i 0) := by rw [List.getD_eq_getElem?_getD, List.getElem?_eq_getElem hi]; rfl
      have hat : atI (cs.map V.int) (0 + (i : Int)) = some (.int (cs.getD i 0)) := by rw [e0]; exact atI_nat (by rw [List.getElem?_map, hc]; rfl)
      have hb := c.2.2 _ (List.mem_of_getElem? hc)
      have sk := sf.skip
      have nx := sf.next c1
      generalize cs.getD i 0 = ci at hat hb sk nx
      refine ⟨_, rfl, _, rfl, l, _, _, _, rfl, rfl, SqL.of hl2, hat, rfl, _, rfl, ?_⟩
      by_cases z0 : ci = 0
      · refine ifF (ndF (by rw [z0])) ?_
        exact ⟨z, ds, _, rfl, s2, w2, sk z0⟩
      · refine ifT (by rw [dF (fun q => z0 (by injection q))]; rfl) ?_
        obtain ⟨dz, tz, hz, htz⟩ := id w2
        refine ⟨_, rfl, _, rfl, l, _, rfl, .inl (SqL.of hl2), _, rfl, cs.length, i, by rw [n1, e0]; rfl, c1, c5, hi, fun y H3 s3 w3 => ?_⟩
        obtain ⟨dy, ty, hy, hty⟩ := id w3
        have cu : CH (unitL cs.length i) := ch_of c1 (by omega) fun j _ => by split <;> decide
        have cm : CH (mulL (unitL cs.length i) ci) := by rw [unit_mul]; exact ch_of c1 (by omega) fun j _ => by split <;> omega
        refine ⟨_, rfl, _, rfl, l, _, _, _, rfl, rfl, SqL.of (s3 _ _ hl2), hat, y, dy, _, ci, rfl, rfl, hy, y, _, ci, rfl, w3, cu, cm, fun v H4 s4 w4 => ?_⟩
        obtain ⟨dv, tv, hv, htv⟩ := id w4
        refine ⟨z, dz, _, v, dv, _, rfl, rfl, s4 _ _ (s3 _ _ hz), hv, z, v, _, _, rfl, (w2.same s3).same s4, w4, sf.ch c, cm, ?_, fun v2 H5 s5 w5 => ?_⟩
        · rw [nx]
          exact (Sofar.ch (.inr rfl) c)
        · rw [nx] at w5
          exact ⟨v2, _, _, rfl, ((s2.trans s3).trans s4).trans s5, w5, .inr rfl⟩
    · rintro σ H2 ⟨z, ds, u, rfl, s2, w2, sf⟩
      rw [show ((cs.length : Nat) : Int).toNat = cs.length by omega] at sf
      obtain ⟨dz, tz, hz, htz⟩ := id w2
      have hl2 := s2 _ _ hl
      have dl := (sf.ch c).2.1
      refine ⟨_, rfl, z, dz, _, rfl, hz, z, ds, rfl, w2, ds.length, rfl, by omega, ?_⟩
      refine ⟨_, rfl, l, _, rfl, .inl (SqL.of hl2), rfl, _, rfl, ?_⟩
      rw [n1]
      by_cases q : ds.length = cs.length
      · refine ifT (dT (by rw [q])) ?_
        refine ⟨_, rfl, ?_⟩
        rw [sf.end' q] at w2
        exact k z H2 s2 w2
      · refine ifF (dF (fun e => by injection e with e; omega)) ?_
        refine ⟨_, rfl, _, rfl, l, _, rfl, .inl (SqL.of hl2), cs.length, 0, by rw [n1]; rfl, c1, c5, by omega, fun y H3 s3 w3 => ?_⟩
        obtain ⟨dy, ty, hy, hty⟩ := id w3
        have cu : CH (unitL cs.length 0) := ch_of c1 (by omega) fun j _ => by split <;> decide
        have cm : CH (mulL (unitL cs.length 0) 0) := by rw [unit_mul]; exact ch_of c1 (by omega) fun j _ => by split <;> omega
        refine ⟨y, dy, _, 0, rfl, rfl, hy, y, _, 0, rfl, w3, cu, cm, fun v H4 s4 w4 => ?_⟩
        obtain ⟨dv, tv, hv, htv⟩ := id w4
        have lst := sf.last c1
        refine ⟨z, dz, _, v, dv, _, rfl, rfl, s4 _ _ (s3 _ _ hz), hv, z, v, _, _, rfl, (w2.same s3).same s4, w4, sf.ch c, cm, by rw [lst]; exact c, fun v2 H5 s5 w5 => ?_⟩
        rw [lst] at w5
        exact k v2 H5 (((s2.trans s3).trans s4).trans s5) w5
end
end W6

/-! RuQ: a try with several clauses, some with a name -/
namespace Ru
open PySem PySem.Spec PyProof.Rows L2
abbrev Ste := Addr → Value → Option Addr → TS
/-- the ends behind a suite whose name (slot i) goes -/
def unE (i : Nat) (D : Ends) : Ends := ⟨fun σ H => D.nx (σ.set i none) H, D.rt, fun σ H => D.bk (σ.set i none) H, fun σ H => D.ct (σ.set i none) H⟩
def suiteOf (o : Option Nat) (ts : Ste) (D : Ends) (a : Addr) (cls : Value) (d : Option Addr) (σ : L2.St) (H : Hp) : Prop :=
  match o with
  | none => ts a cls d D σ H
  | some i => ts a cls d (unE i D) (σ.set i (some (.ref a))) H
/-- what the clauses wish of an error, one after the other -/
def wMix (K : PySem.W.Frag) (Wo : WX) (D : Ends) : List (Value × Option Nat × Ste) → WX
  | [] => Wo
  | (c, o, ts) :: r => fun cls d σ H => ∃ b, PySem.W.exmOne K cls c = some b ∧ (b = true → ∀ a, H a = none → suiteOf o ts D a cls d σ H) ∧ (b = false → wMix K Wo D r cls d σ H)
inductive Hds (X : Cx) : List ExceptHandler → List (Value × Option Nat × Ste) → Prop
  | nil : Hds X [] []
  | plain {x : Str} {c : Value} {ts : Ste} {st : Stmt} {sts : List Stmt} {p1 p2 : Pos} {hs : List ExceptHandler} {l : List (Value × Option Nat × Ste)} (nm : Names X x c)
      (su : ∀ (a : Addr) (oe : Obj) (cls : Value) (d : Option Addr) (pn : List (Addr × Obj)), Zc cls d oe → (∃ vs, oe.data = .fields vs) → PSs (X.suite a ((a, oe) :: pn)) (st :: sts) (ts a cls d)) (r : Hds X hs l) :
      Hds X (.ExceptHandler (some (.Name x p1)) none (st :: sts) p2 :: hs) ((c, none, ts) :: l)
  | named {x n : Str} {i : Nat} {c : Value} {ts : Ste} {st : Stmt} {sts : List Stmt} {p1 p2 : Pos} {hs : List ExceptHandler} {l : List (Value × Option Nat × Ste)} (nd : X.N.Nodup) (hi : X.N[i]? = some n) (lk : X.env.kindOf n = some .local) (nm : Names X x c)
      (su : ∀ (a : Addr) (oe : Obj) (cls : Value) (d : Option Addr) (pn : List (Addr × Obj)), Zc cls d oe → (∃ vs, oe.data = .fields vs) → PSs (X.suite a ((a, oe) :: pn)) (st :: sts) (ts a cls d)) (r : Hds X hs l) :
      Hds X (.ExceptHandler (some (.Name x p1)) (some n) (st :: sts) p2 :: hs) ((c, some i, ts) :: l)
section
variable {X : Cx} {body : List Stmt} {eh : ExceptHandler} {hs : List ExceptHandler} {l : List (Value × Option Nat × Ste)} {pos : Pos} {tb : WX → TS} {Wo : WX}
theorem ps_try_mix (hst : X.stack = X.env :: X.outer) (hfr : X.env.frame = some X.env.locals) (tko : Takes X Wo)
    (hbody : ∀ (W : WX) (pn : List (Addr × Obj)) (xe : Value → Shared → Prop), Takes (X.tr pn xe) W → PassesOwn (model X.prog X.w) X.A X.env xe → PSs (X.tr pn xe) body (tb W))
    (hcl : Hds X (eh :: hs) l) : PS X (.Try body (eh :: hs) [] [] pos) (fun D σ H => tb (wMix X.K Wo D l) D σ H) := by
  refine ⟨fun pq sh σ H D J0 g => ?_⟩
  have okx := J0.ok
  have frA : X.A.frames = some (X.env :: X.outer) := by rw [okx.frames, hst]
  refine wpAny_Try_except ?_
  have bodyRun := (hbody (wMix X.K Wo D l) (X.pn ++ pq)
    (fun e z1 => wpAny (model X.prog X.w) X.A (noteFrame e X.env)
      (fun _ z2 => wpAny (model X.prog X.w) X.A (setFlight e none) (fun _ z3 => wpAny (model X.prog X.w) X.A (handleBy e X.env (eh :: hs)) (SP X pq D) X.xe z3) X.xe z2) X.xe z1)
    (fun u z xx => ?caught) PassesOwn.looking).run [] sh σ H D (J0.toTry _) g
  case caught =>
    obtain ⟨a, B, sI, pq', σ1, H1, cls, d, rfl, Jt, nb, up, sk, na, eos, ag, wish⟩ := xx
    have J1 : Inv X pq σ1 H1 sI := Jt.ofTry okx
    have sk1 : Sky B (X.env :: X.outer) a (Zc cls d) X.env.locals z.heap := by rw [← hst]; exact sk
    show wpAny (model X.prog X.w) X.A (noteFrame (.ref a) X.env) _ _ _
    refine Sky.land Zc.steady frA hfr sk1 fun hp fl upl => ?_
    have up2 := up.trans upl
    have J2 : Inv X pq σ1 H1 { z with heap := hp } := J1.landed nb fl.1 up2 eos ag
    obtain ⟨oe, vs, goe, zoe, doe⟩ := fl.there
    have noFr : a ∉ frs (X.env :: X.outer) := fun mem => by
      obtain ⟨_, o2, eo, nf⟩ := (fl.2.2.1 : hp.FunFrames B (X.env :: X.outer)).mem mem
      rw [goe] at eo
      cases eo
      exact nf _ doe
    have ne1 : a ≠ X.env.locals := fun q => noFr (List.mem_filterMap.mpr ⟨X.env, List.mem_cons_self, by rw [hfr, q]⟩)
    have ne2 : a ∉ X.fs := fun mem => by
      obtain ⟨e, me, q⟩ := List.mem_filterMap.mp mem
      exact noFr (List.mem_filterMap.mpr ⟨e, List.mem_cons_of_mem _ me, q⟩)
    have SU := J2.suite goe doe na ne1 ne2
    have LT : PySem.W.Looks (model X.prog X.w) hp (typeOf (.ref a)) cls := fun A Q E s2 k q => wpAny_typeOf_ref (k _ _ goe) (by rw [zoe.1]; exact q)
    have testN : ∀ {x : Str} {c : Value} {p1 : Pos} {Q E : Value → Shared → Prop}, Names X x c → Q c { z with heap := hp } → wpAny (model X.prog X.w) (X.A.mark (some (.ref a))) (eval (.Name x p1) X.env) Q E { z with heap := hp } := fun {x c p1 Q E} nm q => by
      obtain ⟨gx, dbg, hm | ⟨hm, hv, hnn⟩⟩ := nm
      · exact ld_glob (X := X.suite a ((a, oe) :: (X.pn ++ pq))) SU gx hm q dbg
      · exact ld_blt (X := X.suite a ((a, oe) :: (X.pn ++ pq))) SU gx hm hv q hnn dbg
    have walk : ∀ {hs' : List ExceptHandler} {l' : List (Value × Option Nat × Ste)}, Hds X hs' l' → wMix X.K Wo D l' cls d σ1 H1 → wpAny (model X.prog X.w) X.A (handleBy (.ref a) X.env hs') (SP X pq D) X.xe { z with heap := hp } := by
      intro hs' l' hk
      induction hk with
      | nil =>
        intro wi
        refine wpAny_handleBy_nil ?_
        obtain ⟨b1, b2, b3, oe5, vs5, T5, oT5, ts5, g5, z5, d5, t5, r5⟩ := id fl
        unfold PySem.passOn
        refine wpAny_bind (wpAny_field g5 d5 t5 ?_)
        rw [if_neg (show ¬ ((Value.ref T5 == Value.none) = true) from by simp)]
        have out : wpAny (model X.prog X.w) X.A (setFlight (.ref a) X.env.frame) (fun _ z4 => wpAny (model X.prog X.w) X.A (throw (.ref a) : Sem Flow) (SP X pq D) X.xe z4) X.xe { z with heap := hp } := by
          rw [hfr]
          exact HandSPX.setFlight_upZ fl fun h6 hh6 up6 => wpAny_throw (tko _ _ ⟨a, B, sI, pq, σ1, H1, cls, d, rfl, J1, nb, up2.trans up6, .inr (.inr (by rw [hst]; exact hh6)), na, eos, ag, wi⟩)
        first | exact wpAny_bind (wpAny_pure (wpAny_bind out)) | exact wpAny_bind out
      | plain nm su r ih =>
        intro wi
        obtain ⟨b, eb, yes, no⟩ := wi
        refine wpAny_handleBy_cons (codeAny_handlers_test (testN nm ((PySem.W.exm_one (M := model X.prog X.w) J2.kIn LT eb).here ?_))) (by intro q; cases q)
        cases b with
        | false => exact ih (no rfl)
        | true =>
          refine codeAny_handlers_suite ?_
          refine HandSPX.lands_againZ fl fun h7 fl7 up7 => ?_
          have J7 : Inv X pq σ1 H1 { z with heap := h7 } := J1.landed nb fl7.1 (up2.trans up7) eos ag
          obtain ⟨oe7, vs7, go7, zo7, do7⟩ := fl7.there
          refine wpAny_mono ((su a oe7 cls d (X.pn ++ pq) zo7 ⟨_, do7⟩).run [] _ _ H1 _ (J7.suite go7 do7 na ne1 ne2) (yes rfl a na)) (fun f z8 sp8 => ?_) (fun _ _ q => q.elim)
          cases f with
          | next => obtain ⟨σ8, H8, S8, q8⟩ := sp8; exact ⟨_, _, S8.unsuite okx, q8⟩
          | brk => obtain ⟨σ8, H8, S8, q8⟩ := sp8; exact ⟨_, _, S8.unsuite okx, q8⟩
          | cont => obtain ⟨σ8, H8, S8, q8⟩ := sp8; exact ⟨_, _, S8.unsuite okx, q8⟩
          | ret u => obtain ⟨v8, σ8, H8, S8, r8, q8⟩ := sp8; exact ⟨_, _, _, S8.unsuite okx, r8, q8⟩
      | @named x n i c ts st sts p1 p2 hs3 l3 nd hi lk nm su r ih =>
        intro wi
        obtain ⟨b, eb, yes, no⟩ := wi
        refine wpAny_handleBy_cons (codeAny_handlers_test (testN nm ((PySem.W.exm_one (M := model X.prog X.w) J2.kIn LT eb).here ?_))) (by intro q; cases q)
        cases b with
        | false => exact ih (no rfl)
        | true =>
          refine codeAny_handlers_suite_as ?_
          refine HandSPX.lands_againZ fl fun h7 fl7 up7 => ?_
          have J7 : Inv X pq σ1 H1 { z with heap := h7 } := J1.landed nb fl7.1 (up2.trans up7) eos ag
          obtain ⟨oe7, vs7, go7, zo7, do7⟩ := fl7.there
          refine store_ok (X := X.suite a ((a, oe7) :: (X.pn ++ pq))) (v := .ref a) (J7.suite go7 do7 na ne1 ne2) nd hi (.inl lk) rfl (fun z5 S5 => ?_) (.inr lk)
          refine wpAny_mono ((su a oe7 cls d (X.pn ++ pq) zo7 ⟨_, do7⟩).run [] z5 _ H1 _ S5 (yes rfl a na)) (fun f z8 sp8 => ?_) (fun _ _ q => q.elim)
          have gone : ∀ {σ8 : L2.St} {H8 : Hp} {Q : Shared → Prop}, Inv (X.suite a ((a, oe7) :: (X.pn ++ pq))) [] σ8 H8 z8 → (∀ z9, Inv X pq (σ8.set i none) H8 z9 → Q z9) →
              wpAny (model X.prog X.w) X.A (do bindName X.env n .none; unbindBehindTheSuite X.env n p2) (fun _ z9 => Q z9) X.xe z8 := fun {σ8 H8 Q} S8 hq => gone_ok (S8.unsuite okx) nd hi lk hq
          cases f with
          | next => obtain ⟨σ8, H8, S8, q8⟩ := sp8; exact gone S8 fun z9 J9 => ⟨_, _, J9, q8⟩
          | brk => obtain ⟨σ8, H8, S8, q8⟩ := sp8; exact gone S8 fun z9 J9 => ⟨_, _, J9, q8⟩
          | cont => obtain ⟨σ8, H8, S8, q8⟩ := sp8; exact gone S8 fun z9 J9 => ⟨_, _, J9, q8⟩
          | ret u => obtain ⟨v8, σ8, H8, S8, r8, q8⟩ := sp8; exact gone S8 fun z9 J9 => ⟨_, _, _, J9, r8, q8⟩
    exact walk hcl wish
  refine wpAny_mono bodyRun (fun f z1 sp1 => ?_) (fun e z1 he => he)
  cases f with
  | next => obtain ⟨σ2, H2, J2, q2⟩ := sp1; exact wpAny_execs_nil ⟨σ2, H2, J2.ofTry okx, q2⟩
  | brk => obtain ⟨σ2, H2, J2, q2⟩ := sp1; exact ⟨σ2, H2, J2.ofTry okx, q2⟩
  | cont => obtain ⟨σ2, H2, J2, q2⟩ := sp1; exact ⟨σ2, H2, J2.ofTry okx, q2⟩
  | ret u => obtain ⟨v2, σ2, H2, J2, r2, q2⟩ := sp1; exact ⟨v2, σ2, H2, J2.ofTry okx, r2, q2⟩
end
end Ru

/-! RuR: errors' classes as they stand, by name; what a def that catches tells of them -/
namespace Ru
open PySem PySem.Spec PyProof.Rows L2 LamX
/-- an error without an __init__ of its own -/
structure Ep (K : PySem.W.Frag) (mg : Str → Option Value) (nm : Str) (C : Addr) : Prop where
  g : mg nm = some (.ref C)
  ex : ExcC K C
  xc : PySem.W.excIn K C [.type "ValueError", .type "Exception", .type "BaseException", .type "object"] "ValueError.__new__" = true
  kp : PySem.W.keepIn K (.ref C) = true
  bx : PySem.W.subIn K (.ref C) (.type "BaseException") = some true
  ty : PySem.W.typeIn K (.ref C) = some (.type "type")
/-- an error with an index -/
structure Ei (P : Program) (K : PySem.W.Frag) (mg : Str → Option Value) (nm : Str) (C f : Addr) : Prop where
  ix : PySem.IxX.IxTxt P K mg nm C f
  ex : ExcC K C
/-- an error's name, its class, whether it has an index -/
structure En where
  nm : Str
  c : Addr
  ix : Bool
/-- what an error is told as -/
def EnOf (L : List En) (cls : Value) (d : Option Addr) (H : Hp) (xs : List V) : Prop :=
  ∃ e ∈ L, cls = .ref e.c ∧ ((e.ix = true ∧ ∃ (dd : Addr) (i : Int), d = some dd ∧ H dd = some (.xd [(("index" : Str), .int i)]) ∧ xs = [.str e.nm, .int i]) ∨ (e.ix = false ∧ d = none ∧ xs = [.str e.nm]))
/-- told: the error's tuple, or what the work gave -/
def TTo (L : List En) : (XK → Hp → VK → Prop) → Hp → VK → Prop := fun tl H Q =>
  tl (fun cls d H' => ∃ xs, EnOf L cls d H' xs ∧ ∀ p H'', Same H' H'' → H'' p = some (.tup xs) → Q (.ref p) H'') H Q
/-- a work that ends in an error without an index -/
theorem workP {X : Cx} {k : Nat} {σ : L2.St} {H0 : Hp} {f : Addr} {params : Arguments} {body : Expr} {scope : Scope} {ds : List V} {t : XK → TE} {L : List En} {nm : Str} {C : Addr} (hm : (⟨nm, C, false⟩ : En) ∈ L) (la : LamAt X H0 f params body scope ds) (lb : LamB X k params body scope ds t)
    (go : ∀ (H' : Hp) (E : XK) (Q : VK), Same H0 H' → (∀ H'', Same H' H'' → E (.ref C) none H'') → t E σ H' Q) : Work X k (TTo L) σ H0 f [.str nm] :=
  ⟨params, body, scope, ds, t, la, lb, fun H' Q s h => go H' _ _ s fun H'' s'' => ⟨_, ⟨_, hm, rfl, .inr ⟨rfl, rfl, rfl⟩⟩, fun p H3 s3 hp => h p H3 (s''.trans s3) hp⟩⟩
/-- a work that ends in an error with an index -/
theorem workI {X : Cx} {k : Nat} {σ : L2.St} {H0 : Hp} {f : Addr} {params : Arguments} {body : Expr} {scope : Scope} {ds : List V} {t : XK → TE} {L : List En} {nm : Str} {C : Addr} {i : Int} (hm : (⟨nm, C, true⟩ : En) ∈ L) (la : LamAt X H0 f params body scope ds) (lb : LamB X k params body scope ds t)
    (go : ∀ (H' : Hp) (E : XK) (Q : VK), Same H0 H' → (∀ d H'', Same H' H'' → H'' d = some (.xd [(("index" : Str), .int i)]) → E (.ref C) (some d) H'') → t E σ H' Q) : Work X k (TTo L) σ H0 f [.str nm, .int i] :=
  ⟨params, body, scope, ds, t, la, lb, fun H' Q s h => go H' _ _ s fun d H'' s'' hd => ⟨_, ⟨_, hm, rfl, .inl ⟨rfl, d, i, rfl, hd, rfl⟩⟩, fun p H3 s3 hp => h p H3 (s''.trans s3) hp⟩⟩
end Ru

namespace W6
open PySem PySem.Spec PyProof.Rows L2 Ru StX LamX
/-- where the errors' classes stand -/
structure Er2 where
  n : Addr
/-- what the written part says of the errors -/
structure E2T (P : Program) (K : PySem.W.Frag) (mg : Str → Option Value) (er : Er2) : Prop where
  n : Ep K mg "InvalidNumber" er.n
  nn : PySem.W.exmOne K (.ref er.n) (.ref er.n) = some true
def eL (er : Er2) : List En := [⟨"InvalidNumber", er.n, false⟩]
def spNumX (er : Er2) : Sp := fun vs H Q E => ∃ n l u : Int, vs = [.int n, .int l, .int u] ∧ ((l ≤ n ∧ n ≤ u) → Q .non H) ∧ (¬ (l ≤ n ∧ n ≤ u) → E (.ref er.n) none H)
section
variable {X : Cx} {a : Ad} {er : Er2}
end
section
variable {P : Program} {w : World} {K : PySem.W.Frag} {mg : Str → Option Value} {base : Heap} {a : Ad} {er : Er2}
/-- a def whose code object stands at c -/
theorem okC {x qual : Str} {st : Stmt} {f c : Addr} {fd : FuncData} {N ps : List Str} {k : Nat} {sp : Sp} (F : Fun K x qual st f fd) (hc : fd.code = .ref c) (S : FnScope N ps (defScope st)) (len : ∀ vs H Q E, sp vs H Q E → vs.length = ps.length)
    (hbody : ∀ (A : Around) (outer : List Env) (s : Shared) (H : Hp) (vs : List V) (Q : VK) (E : XK), Room k (A.deeper (envOfC qual (defScope st) s.heap.objs.size f (.ref c))) → sp vs H Q E →
      ∃ t, PSs (cxOf CX0 P w K mg base N qual (defScope st) f (.ref c) A outer s H E).nox (defBody st) t ∧ t { nx := fun _ H' => Q .non H', rt := Q } (start N vs) H) : FnOk P w K mg base CX0 (k + 1) f fd ps sp := by
  obtain ⟨oc, od, kV, doc, pm, an, cdv, ct, osl, rfl, lk, hcd⟩ := F.ex
  have e : cdv = .ref c := hc
  subst e
  refine fn_of lk hcd S len fun A outer s H vs Q E hr hsp => ?_
  obtain ⟨t, h, q⟩ := hbody A outer s H vs Q E hr hsp
  exact ⟨t, h.nox, q⟩
theorem tabs_kp {Tb : List (Addr × Str)} {H H' : Hp} {x y : Addr} (ls : LS K H x y) (k : Kp x H H') (h : Tabs Tb H) : Tabs Tb H' := by
  have go : ∀ {b : Addr} {o : HO}, H b = some o → (∀ xs, o ≠ .lst xs) → H' b = some o := fun e n => k.get ls e n
  intro p hp
  obtain ⟨ps, a1, a2, a3⟩ := h p hp
  refine ⟨ps, go a1 (fun xs z => nomatch z), a2, fun pos cv hc => ?_⟩
  obtain ⟨c, e1, e2⟩ := a3 pos cv hc
  exact ⟨c, e1, go e2 (fun xs z => nomatch z)⟩
theorem LS.ext {H H' : Hp} {x y : Addr} (h : LS K H x y) (s : ExtN H H') : LS K H' x y := by
  obtain ⟨ns, i, m, c, h1, h2, r⟩ := h
  refine ⟨ns, i, m, c, s _ _ h1 (fun _ z => nomatch z), ?_, r⟩
  rcases h2 with (h | ⟨ob, h⟩) | h
  · exact .inl (.inl (s _ _ h (fun _ z => nomatch z)))
  · exact .inl (.inr ⟨ob, s _ _ h (fun _ z => nomatch z)⟩)
  · exact .inr h
end
end W6

namespace W6
open PySem PySem.Spec PyProof.Rows L2 Ru StX LamX
/-- prices that can be -/
def CP (cs : List Int) : Prop := 1 ≤ cs.length ∧ cs.length ≤ 24 ∧ ∀ c ∈ cs, 0 ≤ c ∧ c ≤ 1000000
theorem CP.prs {cs : List Int} (c : CP cs) : Th.Prs cs := ⟨c.1, c.2.1, c.2.2⟩
def PAt (a : Ad) (H : Hp) (z : Addr) (cs : List Int) : Prop := ∃ dx t, H z = some (.ins a.c_Prices dx [("_cents", .ref t)]) ∧ H t = some (.tup (cs.map V.int))
theorem PAt.same {a : Ad} {H H' : Hp} {z : Addr} {cs : List Int} (h : PAt a H z cs) (s : Same H H') : PAt a H' z cs := let ⟨dx, t, h1, h2⟩ := h; ⟨dx, t, s _ _ h1, s _ _ h2⟩
theorem PAt.ext {a : Ad} {H H' : Hp} {z : Addr} {cs : List Int} (h : PAt a H z cs) (e : ExtN H H') : PAt a H' z cs := let ⟨dx, t, h1, h2⟩ := h; ⟨dx, t, e _ _ h1 (fun _ z => nomatch z), e _ _ h2 (fun _ z => nomatch z)⟩
section
variable (a : Ad)
def spPi : Sp := fun vs H Q _ => ∃ (x dx p : Addr) (cs : List Int), vs = [.ref x, .ref p] ∧ H x = some (.ins a.c_Prices dx []) ∧ H p = some (.tup (cs.map V.int)) ∧ CP cs ∧ ∀ H', Fr1 x H H' → PAt a H' x cs → Q .non H'
def spPs : Sp := fun vs H Q E => ∃ ws rest, vs = ws ++ rest ∧ ws.length = ["self"].length ∧ rest.length ≤ sizeLine ∧ ∀ p, H p = Option.none → spPi a (ws ++ [V.ref p]) (upd H p (.tup rest)) Q E
def spPrices : Sp := fun vs H Q _ => ∃ (l : Addr) (cs : List Int), vs = [.ref l] ∧ H l = some (.lst (cs.map V.int)) ∧ CP cs ∧ cs.length ≤ 4 ∧ ∀ z H', Same H H' → PAt a H' z cs → Q (.ref z) H'
end
theorem prices_made {a : Ad} {H : Hp} {Q : VK} {E : XK} {cs : List Int} (c : CP cs) (k : ∀ z H', Same H H' → PAt a H' z cs → Q (.ref z) H') : ∀ x dx, H x = none → H dx = none → dx ≠ x → spPs a (V.ref x :: cs.map V.int) (upd (upd H dx (.own x)) x (.ins a.c_Prices dx [])) (fun v H2 => v = .non ∧ Q (.ref x) H2) E := fun x dx nx nd ne =>
  ⟨[.ref x], cs.map V.int, rfl, rfl, by rw [List.length_map]; exact Nat.le_of_lt (small1000 (by have := c.2.1; omega)), fun p hp => by
    have npx : x ≠ p := ne_of_none upd_same hp
    have s1 := same_upd (o := .tup (cs.map V.int)) hp
    exact ⟨x, dx, p, cs, rfl, s1 _ _ upd_same, upd_same, c, fun H' fr wt => ⟨rfl, k x H' (Fr1.made nx nd ((Fr1.of s1).trans fr)) wt⟩⟩⟩
theorem prices_in {a : Ad} {H : Hp} {x dx : Addr} {R : VK} {E : XK} {cs : List Int} (c : CP cs) (nx : H x = none) (nd : H dx = none) (ne : dx ≠ x) (k : ∀ H', Same H H' → PAt a H' x cs → R .non H') : spPs a (V.ref x :: cs.map V.int) (upd (upd H dx (.own x)) x (.ins a.c_Prices dx [])) R E := by
  refine ⟨[.ref x], cs.map V.int, rfl, rfl, by rw [List.length_map]; exact Nat.le_of_lt (small1000 (by have := c.2.1; omega)), fun p hp => ?_⟩
  have npx : x ≠ p := ne_of_none upd_same hp
  have s1 := same_upd (o := .tup (cs.map V.int)) hp
  exact ⟨x, dx, p, cs, rfl, s1 _ _ upd_same, upd_same, c, fun H' fr wt => k H' (Fr1.made nx nd ((Fr1.of s1).trans fr)) wt⟩
section
variable {P : Program} {w : World} {K : PySem.W.Frag} {mg : Str → Option Value} {base : Heap} {a : Ad}
theorem ok_Prices_init (T : Txt K mg a) : FnR P w K mg base CX0 2 a.f_Prices_init (spPs a) := by
  have G_first_invalid : FnOk P w K mg base CX0 1 a.f_first_invalid a.d_first_invalid ["values", "least", "greatest", "most"] spFi := ok_first_invalid T
  obtain ⟨oc, od, kV, doc, pm, an, cdv, ct, osl, e, lk, hcd⟩ := T.F_Prices_init.ex
  rw [e] at lk
  refine fn_star (ps := ["self"]) (pv := "cents") (sp := spPi a) lk hcd sc_Prices_init cxUp_none (bind_star1 (B := fun us => bindArgs (PySem.W.fnOf "__init__" "Prices.__init__" (defArgs s_Prices_init) (defBody s_Prices_init) (defScope s_Prices_init) .none kV doc pm an cdv ct) ⟨us, []⟩) (fun _ => rfl) (fun _ _ _ => rfl)) (fun A outer s H vs Q E hr h => ?_)
  obtain ⟨x, dx, p, cs, rfl, hx, hp, c, k⟩ := h
  obtain ⟨tt, cvT⟩ := T.cv_Prices_MAX_TICKS
  obtain ⟨tc, cvC⟩ := T.cv_Prices_MAX_PRICE
  have npx : p ≠ x := ne_of hp hx (fun z => nomatch z)
  refine ⟨_, PSs.nox ((pss_cons (ps_set (i := 2) sc_Prices_init.nd rfl (Or.inl rfl) (pe_call G_first_invalid (hr.mono (by decide)) (by rfl) T.mg_first_invalid T.F_first_invalid.kp (b_first_invalid T) .nil pass0 (pa_cons (pv 1) (pa_cons pe_int (pa_cons (pe_con (pv 0) rfl) (pa_cons (pe_con (pv 0) rfl) pa_nil))))))
      (pss_cons (ps_if (pt_cmpR op_notN (pv 2) pe_non (nomark _)) (pss_one (ps_never)) pss_nil)
      (pss_one (ps_fld (pv 0) (pv 1) rfl))))), ?_⟩
  refine ⟨_, rfl, _, rfl, x, _, dx, _, _, _, rfl, hx, T.cl_Prices, cvC, rfl, _, rfl, x, _, dx, _, _, _, rfl, hx, T.cl_Prices, cvT, rfl, p, cs, _, _, _, rfl, hp, fun H' sm ne ok => ?_, fun H' i c' sm hc bad first => ?_, fun H' sm e0 => ?_⟩
  · refine ⟨_, rfl, rfl, _, rfl, ?_⟩
    refine ifF rfl ?_
    refine ⟨_, rfl, _, rfl, x, _, dx, _, rfl, sm _ _ hx, T.cl_Prices, T.na_Prices__cents, by show 0 < 1000; decide, ?_⟩
    exact k _ ((Fr1.of sm).trans Fr1.upd) ⟨dx, p, by rw [upd_same]; rfl, by rw [upd_ne npx]; exact sm _ _ hp⟩
  · have := c.2.2 c' (List.mem_of_getElem? hc)
    have := (List.getElem?_eq_some_iff.mp hc).1
    have := c.2.1
    exact absurd ⟨by omega, by omega, by omega⟩ bad
  · have := c.1
    rw [e0] at this
    exact absurd this (by decide)
theorem ok_Prices_cents (T : Txt K mg a) : FnOk P w K mg base CX0 1 a.f_Prices_cents a.d_Prices_cents ["self"] (getSp a.c_Prices "_cents") := by
  refine T.F_Prices_cents.ok sc_Prices_cents (fun vs H Q E h => ?_) (fun cdv A outer s H vs Q E hr h => ?_)
  · obtain ⟨z, dx, fs, v, rfl, _⟩ := h
    rfl
  · obtain ⟨z, dx, fs, v, rfl, hz, l, q⟩ := h
    exact ⟨_, (pss_one (ps_ret (pe_fld (pv 0) rfl))), ⟨_, rfl, z, _, dx, fs, v, rfl, hz, T.cl_Prices, T.na_Prices__cents, l, q⟩⟩
theorem ok__law_prices (T : Txt K mg a) : FnOk P w K mg base CX0 4 a.f__law_prices a.d__law_prices ["_law_cents_here"] (spPrices a) := by
  have G_Prices_init : FnR P w K mg base CX0 2 a.f_Prices_init (spPs a) := ok_Prices_init T
  refine T.F__law_prices.ok sc__law_prices (fun vs H Q E h => ?_) (fun cdv A outer s H vs Q E hr h => ?_)
  · obtain ⟨l, cs, rfl, _⟩ := h
    rfl
  · obtain ⟨l, cs, rfl, hl, c, c4, k⟩ := h
    refine ⟨_, (pss_cons (ps_if (pt_cmpR op_eq (pe_callB call_len_seq (by rfl) T.z_len PySem.boot_len (pa_cons (pv 0) pa_nil)) pe_int (nomark _)) (pss_one (ps_ret (pe_makeR T.mk_Prices G_Prices_init (hr.mono (by decide)) (by rfl) T.mg_Prices pass0 (pa_cons (pe_ix ix_list (pv 0) pe_int (fun _ _ => rfl)) pa_nil)))) pss_nil)
      (pss_cons (ps_if (pt_cmpR op_eq (pe_callB call_len_seq (by rfl) T.z_len PySem.boot_len (pa_cons (pv 0) pa_nil)) pe_int (nomark _)) (pss_one (ps_ret (pe_makeR T.mk_Prices G_Prices_init (hr.mono (by decide)) (by rfl) T.mg_Prices pass0 (pa_cons (pe_ix ix_list (pv 0) pe_int (fun _ _ => rfl)) (pa_cons (pe_ix ix_list (pv 0) pe_int (fun _ _ => rfl)) pa_nil))))) pss_nil)
      (pss_cons (ps_if (pt_cmpR op_eq (pe_callB call_len_seq (by rfl) T.z_len PySem.boot_len (pa_cons (pv 0) pa_nil)) pe_int (nomark _)) (pss_one (ps_ret (pe_makeR T.mk_Prices G_Prices_init (hr.mono (by decide)) (by rfl) T.mg_Prices pass0 (pa_cons (pe_ix ix_list (pv 0) pe_int (fun _ _ => rfl)) (pa_cons (pe_ix ix_list (pv 0) pe_int (fun _ _ => rfl)) (pa_cons (pe_ix ix_list (pv 0) pe_int (fun _ _ => rfl)) pa_nil)))))) pss_nil)
      (pss_one (ps_ret (pe_makeR T.mk_Prices G_Prices_init (hr.mono (by decide)) (by rfl) T.mg_Prices pass0 (pa_cons (pe_ix ix_list (pv 0) pe_int (fun _ _ => rfl)) (pa_cons (pe_ix ix_list (pv 0) pe_int (fun _ _ => rfl)) (pa_cons (pe_ix ix_list (pv 0) pe_int (fun _ _ => rfl)) (pa_cons (pe_ix ix_list (pv 0) pe_int (fun _ _ => rfl)) pa_nil)))))))))), ?_⟩
    have c1 := c.1
    have sl := SqL.of (K := K) hl
    match cs, c1, c4 with
    | [], c1, _ => simp at c1
    | [u], _, _ =>
      refine ⟨_, rfl, l, _, rfl, .inl sl, rfl, _, rfl, ifT rfl ?_⟩
      exact ⟨_, rfl, l, _, _, _, rfl, rfl, sl, rfl, prices_made (cs := [u]) c k⟩
    | [u, v], _, _ =>
      refine ⟨_, rfl, l, _, rfl, .inl sl, rfl, _, rfl, ifF rfl ?_⟩
      refine ⟨_, rfl, l, _, rfl, .inl sl, rfl, _, rfl, ifT rfl ?_⟩
      exact ⟨_, rfl, l, _, _, _, rfl, rfl, sl, rfl, _, rfl, l, _, _, _, rfl, rfl, sl, rfl, prices_made (cs := [u, v]) c k⟩
    | [u, v, x], _, _ =>
      refine ⟨_, rfl, l, _, rfl, .inl sl, rfl, _, rfl, ifF rfl ?_⟩
      refine ⟨_, rfl, l, _, rfl, .inl sl, rfl, _, rfl, ifF rfl ?_⟩
      refine ⟨_, rfl, l, _, rfl, .inl sl, rfl, _, rfl, ifT rfl ?_⟩
      exact ⟨_, rfl, l, _, _, _, rfl, rfl, sl, rfl, _, rfl, l, _, _, _, rfl, rfl, sl, rfl, _, rfl, l, _, _, _, rfl, rfl, sl, rfl, prices_made (cs := [u, v, x]) c k⟩
    | [u, v, x, y], _, _ =>
      refine ⟨_, rfl, l, _, rfl, .inl sl, rfl, _, rfl, ifF rfl ?_⟩
      refine ⟨_, rfl, l, _, rfl, .inl sl, rfl, _, rfl, ifF rfl ?_⟩
      refine ⟨_, rfl, l, _, rfl, .inl sl, rfl, _, rfl, ifF rfl ?_⟩
      exact ⟨_, rfl, l, _, _, _, rfl, rfl, sl, rfl, _, rfl, l, _, _, _, rfl, rfl, sl, rfl, _, rfl, l, _, _, _, rfl, rfl, sl, rfl, _, rfl, l, _, _, _, rfl, rfl, sl, rfl, prices_made (cs := [u, v, x, y]) c k⟩
    | u :: v :: x :: y :: m :: r, _, c4 => simp at c4
end
end W6

namespace W6
open PySem PySem.Spec PyProof.Rows L2 Ru StX LamX
/-- the first number of ticks whose heating costs more -/
def FOv (p : Th.Par) (cs : List Int) (b : Int) (r : Option Nat) : Prop :=
  match r with
  | none => Th.Ac p cs 1000000000000000000 ≤ b
  | some n => 1 ≤ n ∧ n ≤ 1000000000000000000 ∧ b < Th.Ac p cs n ∧ Th.Ac p cs (n - 1) ≤ b
section
variable (a : Ad) (er : Er2)
def spChA : Sp := fun vs H Q _ => ∃ (c ad : Addr) (p : Th.Par) (am : List Int) (bs : List Nat) (back : Option Nat), vs = [.ref c, .ref ad] ∧ CAt a H c p bs back ∧ Th.CourseOk p bs back ∧ Th.Prs am ∧ H ad = some (.tup (am.map V.int)) ∧
  ∀ z bs' H', Same H H' → YAtX a H' z p am bs' back → Th.Rnd p bs back am.length bs' → Q (.ref z) H'
def spCost : Sp := fun vs H Q _ => ∃ (x z : Addr) (p : Th.Par) (cs : List Int) (t : Nat), vs = [.ref x, .ref z, .int t] ∧ RAt a H x p ∧ PAt a H z cs ∧ CP cs ∧ t ≤ 1000000000000000000 ∧ ∀ H', Same H H' → Q (.int (Th.Ac p cs t)) H'
def spCostX : Sp := fun vs H Q E => ∃ (x z : V) (n : Int), vs = [x, z, .int n] ∧ ¬ (0 ≤ n ∧ n ≤ 1000000000000000000) ∧ E (.ref er.n) none H
def spOver : Sp := fun vs H Q _ => ∃ (x z : Addr) (p : Th.Par) (cs : List Int) (b : Int), vs = [.ref x, .ref z, .int b] ∧ RAt a H x p ∧ PAt a H z cs ∧ CP cs ∧ 0 ≤ b ∧ b ≤ 1000000000000000000000000000000 ∧ ∀ r H', Same H H' → FOv p cs b r → Q (optV r) H'
def spOverX : Sp := fun vs H Q E => ∃ (x z : V) (n : Int), vs = [x, z, .int n] ∧ ¬ (0 ≤ n ∧ n ≤ 1000000000000000000000000000000) ∧ E (.ref er.n) none H
def spCshare : Sp := fun vs H Q _ => ∃ (x z : Addr) (p : Th.Par) (cs : List Int), vs = [.ref x, .ref z] ∧ RAt a H x p ∧ PAt a H z cs ∧ CP cs ∧
  ∀ y H' bs back (t b : Nat), Same H H' → H y = none → H' y = some (.tup [.int t, .int b]) → Th.CourseX p bs back → DvX cs bs back → Th.ShareX p cs bs back t b → Q (.ref y) H'
end
section
variable {P : Program} {w : World} {K : PySem.W.Frag} {mg : Str → Option Value} {base : Heap} {a : Ad} {er : Er2}
theorem okA_Course_heating_sum (T : Txt K mg a) : FnOk P w K mg base CX0 6 a.f_Course_heating_sum a.d_Course_heating_sum ["self", "amounts"] (spChA a) :=
  (ok_Course_heating_sum T).imp fun vs H Q E h => by
    obtain ⟨c, ad, p, am, bs, back, rfl, ca, co, pr, ham, k⟩ := h
    obtain ⟨dx, ls, tl, hs, qs, hc, hls, lq, st, ta, ya⟩ := id ca
    exact ⟨c, dx, ad, tl, ls, _, p, am, bs, back, qs, rfl, hc, rfl, rfl, hls, ⟨lq, st⟩, ta, co, pr, ham, k⟩
theorem ok_heating_cost (T : Txt K mg a) : FnOk P w K mg base CX0 7 a.f_heating_cost a.d_heating_cost ["room", "prices", "count"] (spCost a) := by
  have G_check_number : FnOk P w K mg base CX0 1 a.f_check_number a.d_check_number ["number", "least", "greatest"] spNum := ok_check_number T
  have G_Prices_cents : FnOk P w K mg base CX0 1 a.f_Prices_cents a.d_Prices_cents ["self"] (getSp a.c_Prices "_cents") := ok_Prices_cents T
  have G_Course_heating_sum : FnOk P w K mg base CX0 6 a.f_Course_heating_sum a.d_Course_heating_sum ["self", "amounts"] (spChA a) := okA_Course_heating_sum T
  have G_HeatingSum_sum_before : FnOk P w K mg base CX0 4 a.f_HeatingSum_sum_before a.d_HeatingSum_sum_before ["self", "tick"] (spYbX a) := okx_HeatingSum_sum_before T
  refine T.F_heating_cost.ok sc_heating_cost (fun vs H Q E h => ?_) (fun cdv A outer s H vs Q E hr h => ?_)
  · obtain ⟨x, z, p, cs, t, rfl, _⟩ := h
    rfl
  · obtain ⟨x, z, p, cs, t, rfl, ra, pz, cp, t18, k⟩ := h
    refine ⟨_, (pss_cons (ps_expr (pe_call G_check_number (hr.mono (by decide)) (by rfl) T.mg_check_number T.F_check_number.kp (b_check_number T) .nil pass0 (pa_cons (pv 2) (pa_cons pe_int (pa_cons (pe_glob (v := .int 1000000000000000000) rfl T.mg_MOST_TICKS.choose_spec ⟨_, rfl⟩) pa_nil)))))
      (pss_one (ps_ret (pe_meth (pe_meth (pe_fld (pv 0) rfl) T.cl_Course T.me_Course_heating_sum G_Course_heating_sum (hr.mono (by decide)) (b_Course_heating_sum T) .nil pass0 (pa_cons (pe_prop (pv 1) T.cl_Prices T.pr_Prices_cents G_Prices_cents (hr.mono (by decide)) (b_Prices_cents T) .nil pass0 rfl) pa_nil)) T.cl_HeatingSum T.me_HeatingSum_sum_before G_HeatingSum_sum_before (hr.mono (by decide)) (b_HeatingSum_sum_before T) .nil pass0 (pa_cons (pv 2) pa_nil))))), ?_⟩
    obtain ⟨dx, ww, hh, c, u, bs, back, hx, ca, co, _⟩ := ra
    obtain ⟨dz, tz, hz, htz⟩ := id pz
    obtain ⟨dc, ls, tl, hs, qs, hc, hls, _⟩ := id ca
    refine ⟨_, rfl, _, _, _, rfl, by omega, by omega, ?_⟩
    refine ⟨_, rfl, x, _, dx, _, _, rfl, hx, T.cl_Room, T.na_Room_course, rfl, c, dc, _, rfl, hc, rfl, _, rfl, z, dz, _, rfl, hz, z, dz, _, .ref tz, rfl, hz, rfl, c, tz, p, cs, bs, back, rfl, ca, co, cp.prs, htz, fun y bs' H1 s1 ya rn => ?_⟩
    obtain ⟨dy, ad, tly, lsy, hy, _⟩ := id ya
    exact ⟨y, dy, _, rfl, hy, rfl, _, rfl, y, p, cs, bs', back, t, rfl, ya, cp.prs, rn.dvd, rn.co, t18, fun H2 s2 => k H2 (s1.trans s2)⟩
theorem ok_first_over (T : Txt K mg a) : FnOk P w K mg base CX0 7 a.f_first_over a.d_first_over ["room", "prices", "budget"] (spOver a) := by
  have G_check_number : FnOk P w K mg base CX0 1 a.f_check_number a.d_check_number ["number", "least", "greatest"] spNum := ok_check_number T
  have G_Prices_cents : FnOk P w K mg base CX0 1 a.f_Prices_cents a.d_Prices_cents ["self"] (getSp a.c_Prices "_cents") := ok_Prices_cents T
  have G_Course_heating_sum : FnOk P w K mg base CX0 6 a.f_Course_heating_sum a.d_Course_heating_sum ["self", "amounts"] (spChA a) := okA_Course_heating_sum T
  have G_HeatingSum_sum_before : FnOk P w K mg base CX0 4 a.f_HeatingSum_sum_before a.d_HeatingSum_sum_before ["self", "tick"] (spYbX a) := okx_HeatingSum_sum_before T
  refine T.F_first_over.ok sc_first_over (fun vs H Q E h => ?_) (fun cdv A outer s H vs Q E hr h => ?_)
  · obtain ⟨x, z, p, cs, b, rfl, _⟩ := h
    rfl
  · obtain ⟨x, z, p, cs, b, rfl, ra, pz, cp, b0, b1, k⟩ := h
    refine ⟨_, (pss_cons (ps_expr (pe_call G_check_number (hr.mono (by decide)) (by rfl) T.mg_check_number T.F_check_number.kp (b_check_number T) .nil pass0 (pa_cons (pv 2) (pa_cons pe_int (pa_cons (pe_glob (v := .int 1000000000000000000000000000000) rfl T.mg_MOST_BUDGET.choose_spec ⟨_, rfl⟩) pa_nil)))))
      (pss_cons (ps_set (i := 3) sc_first_over.nd rfl (Or.inl rfl) (pe_meth (pe_fld (pv 0) rfl) T.cl_Course T.me_Course_heating_sum G_Course_heating_sum (hr.mono (by decide)) (b_Course_heating_sum T) .nil pass0 (pa_cons (pe_prop (pv 1) T.cl_Prices T.pr_Prices_cents G_Prices_cents (hr.mono (by decide)) (b_Prices_cents T) .nil pass0 rfl) pa_nil)))
      (pss_cons (ps_if (pt_cmpR op_le (pe_meth (pv 3) T.cl_HeatingSum T.me_HeatingSum_sum_before G_HeatingSum_sum_before (hr.mono (by decide)) (b_HeatingSum_sum_before T) .nil pass0 (pa_cons (pe_glob (v := .int 1000000000000000000) rfl T.mg_MOST_TICKS.choose_spec ⟨_, rfl⟩) pa_nil)) (pv 2) (nomark _)) (pss_one (ps_ret pe_non)) pss_nil)
      (pss_cons (ps_par (i := 4) (j := 5) (by rfl) sc_first_over.nd rfl rfl (by decide) rfl rfl (pa_cons pe_int (pa_cons (pe_glob (v := .int 1000000000000000000) rfl T.mg_MOST_TICKS.choose_spec ⟨_, rfl⟩) pa_nil)) (by rfl))
      (pss_cons (ps_while PassesOwn.never (pt_cmpR op_gt (pe_op op_sub (pv 5) (pv 4)) pe_int (nomark _))
        (pss_cons (ps_set (i := 6) sc_first_over.nd rfl (Or.inl rfl) (pe_op op_fdiv (pe_op op_add (pv 4) (pv 5)) pe_int))
      (pss_one (ps_if (pt_cmpR op_gt (pe_meth (pv 3) T.cl_HeatingSum T.me_HeatingSum_sum_before G_HeatingSum_sum_before (hr.mono (by decide)) (b_HeatingSum_sum_before T) .nil pass0 (pa_cons (pv 6) pa_nil)) (pv 2) (nomark _)) (pss_one (ps_set (i := 5) sc_first_over.nd rfl (Or.inl rfl) (pv 6))) (pss_one (ps_set (i := 4) sc_first_over.nd rfl (Or.inl rfl) (pv 6)))))))
      (pss_one (ps_ret (pv 5)))))))), ?_⟩
    obtain ⟨dx, ww, hh, c, u, bs, back, hx, ca, co, _⟩ := ra
    obtain ⟨dz, tz, hz, htz⟩ := id pz
    obtain ⟨dc, ls, tl, hs, qs, hc, hls, _⟩ := id ca
    refine ⟨_, rfl, _, _, _, rfl, by omega, by omega, ?_⟩
    refine ⟨_, rfl, x, _, dx, _, _, rfl, hx, T.cl_Room, T.na_Room_course, rfl, c, dc, _, rfl, hc, rfl, _, rfl, z, dz, _, rfl, hz, z, dz, _, .ref tz, rfl, hz, rfl, c, tz, p, cs, bs, back, rfl, ca, co, cp.prs, htz, fun y bs' H1 s1 ya rn => ?_⟩
    obtain ⟨dy, ad, tly, lsy, hy, _⟩ := id ya
    refine ⟨_, rfl, y, dy, _, rfl, hy, rfl, y, p, cs, bs', back, 1000000000000000000, rfl, ya, cp.prs, rn.dvd, rn.co, Nat.le_refl _, fun H2 s2 => ?_⟩
    refine ⟨_, rfl, _, _, rfl, rfl, _, rfl, ?_⟩
    by_cases c0 : Th.Ac p cs 1000000000000000000 ≤ b
    · refine ifT (dT c0) ?_
      exact k none H2 (s1.trans s2) c0
    · refine ifF (dF c0) ?_
      refine ⟨_, _, rfl, ?_⟩
      have a0 : Th.Ac p cs 0 ≤ b := b0
      refine ⟨fun m σ H' => Same H2 H' ∧ ∃ (lo hi : Nat) (u : Option V), m = hi - lo ∧ lo < hi ∧ hi ≤ 1000000000000000000 ∧ σ = [some (.ref x), some (.ref z), some (.int b), some (.ref y), some (.int lo), some (.int hi), u] ∧ Th.Ac p cs lo ≤ b ∧ b < Th.Ac p cs hi, ⟨_, Same.refl _, 0, 1000000000000000000, none, rfl, by decide, Nat.le_refl _, rfl, a0, by omega⟩, ?_⟩
      rintro m σ H' ⟨s3, lo, hi, u, rfl, lt, h18, rfl, le, gt⟩
      have ya' := (ya.same s2).same s3
      have hy' := s3 _ _ (s2 _ _ hy)
      refine ⟨_, rfl, _, rfl, _, _, rfl, rfl, _, _, rfl, rfl, _, rfl, ?_⟩
      by_cases c1 : 1 < hi - lo
      · refine ifT (dT (by omega)) ?_
        refine ⟨fun σ' H' => ∃ m', m' < hi - lo ∧ (Same H2 H' ∧ ∃ (lo hi : Nat) (u : Option V), m' = hi - lo ∧ lo < hi ∧ hi ≤ 1000000000000000000 ∧ σ' = [some (.ref x), some (.ref z), some (.int b), some (.ref y), some (.int lo), some (.int hi), u] ∧ Th.Ac p cs lo ≤ b ∧ b < Th.Ac p cs hi), fun _ _ h => h, ?_⟩
        refine ⟨_, rfl, _, rfl, _, _, rfl, rfl, _, _, rfl, rfl, ⟨by decide, by decide⟩, ?_⟩
        have em : ((lo : Int) + (hi : Int)) / 2 = (((lo + hi) / 2 : Nat) : Int) := by omega
        generalize hm : (lo + hi) / 2 = mid at em
        refine ⟨_, rfl, y, dy, _, rfl, hy', rfl, _, rfl, y, p, cs, bs', back, mid, congrArg (fun u => [V.ref y, V.int u]) em, ya', cp.prs, rn.dvd, rn.co, by omega, fun H4 s4 => ?_⟩
        refine ⟨_, rfl, _, _, rfl, rfl, _, rfl, ?_⟩
        by_cases c2 : b < Th.Ac p cs mid
        · refine ifT (dT c2) ⟨_, rfl, ?_⟩
          exact ⟨mid - lo, by omega, s3.trans s4, lo, mid, some (.int (((lo : Int) + (hi : Int)) / 2)), rfl, by omega, by omega, by rw [← em]; rfl, le, c2⟩
        · refine ifF (dF c2) ⟨_, rfl, ?_⟩
          exact ⟨hi - mid, by omega, s3.trans s4, mid, hi, some (.int (((lo : Int) + (hi : Int)) / 2)), rfl, by omega, h18, by rw [← em]; rfl, by omega, gt⟩
      · refine ifF (dF (by omega)) ?_
        refine ⟨_, rfl, ?_⟩
        exact k (some hi) H' ((s1.trans s2).trans s3) ⟨by omega, h18, gt, by rw [show hi - 1 = lo by omega]; exact le⟩
theorem ok_cost_share (T : Txt K mg a) : FnOk P w K mg base CX0 7 a.f_cost_share a.d_cost_share ["room", "prices"] (spCshare a) := by
  have G_Prices_cents : FnOk P w K mg base CX0 1 a.f_Prices_cents a.d_Prices_cents ["self"] (getSp a.c_Prices "_cents") := ok_Prices_cents T
  have G_Course_heating_sum : FnOk P w K mg base CX0 6 a.f_Course_heating_sum a.d_Course_heating_sum ["self", "amounts"] (spChA a) := okA_Course_heating_sum T
  have G_HeatingSum_share : FnOk P w K mg base CX0 2 a.f_HeatingSum_share a.d_HeatingSum_share ["self"] (spYsX a) := okx_HeatingSum_share T
  refine T.F_cost_share.ok sc_cost_share (fun vs H Q E h => ?_) (fun cdv A outer s H vs Q E hr h => ?_)
  · obtain ⟨x, z, p, cs, rfl, _⟩ := h
    rfl
  · obtain ⟨x, z, p, cs, rfl, ra, pz, cp, k⟩ := h
    refine ⟨_, (pss_one (ps_ret (pe_meth0 (pe_meth (pe_fld (pv 0) rfl) T.cl_Course T.me_Course_heating_sum G_Course_heating_sum (hr.mono (by decide)) (b_Course_heating_sum T) .nil pass0 (pa_cons (pe_prop (pv 1) T.cl_Prices T.pr_Prices_cents G_Prices_cents (hr.mono (by decide)) (b_Prices_cents T) .nil pass0 rfl) pa_nil)) T.cl_HeatingSum T.me_HeatingSum_share G_HeatingSum_share (hr.mono (by decide)) (b_HeatingSum_share T) .nil pass0))), ?_⟩
    obtain ⟨dx, ww, hh, c, u, bs, back, hx, ca, co, _⟩ := ra
    obtain ⟨dz, tz, hz, htz⟩ := id pz
    obtain ⟨dc, ls, tl, hs, qs, hc, hls, _⟩ := id ca
    refine ⟨_, rfl, x, _, dx, _, _, rfl, hx, T.cl_Room, T.na_Room_course, rfl, c, dc, _, rfl, hc, rfl, _, rfl, z, dz, _, rfl, hz, z, dz, _, .ref tz, rfl, hz, rfl, c, tz, p, cs, bs, back, rfl, ca, co, cp.prs, htz, fun y bs' H1 s1 ya rn => ?_⟩
    obtain ⟨dy, ad, tly, lsy, hy, _⟩ := id ya
    exact ⟨y, dy, _, rfl, hy, rfl, y, p, cs, bs', back, rfl, ya, cp.prs, rn.co, fun y2 H2 t b s2 ny hy2 sh => k y2 H2 bs' back t b (s1.trans s2) (s1.free ny) hy2 rn.co rn.dvd sh⟩
end
end W6

namespace W6
open PySem PySem.Spec PyProof.Rows L2 Ru StX LamX
def spChgs (K : PySem.W.Frag) : Sp := fun vs H Q _ => ∃ (x y : Addr) (most : Nat), vs = [.ref x, .int most] ∧ LS K H x y ∧ 1 ≤ most ∧ most ≤ 24 ∧ ∀ p cs H', CH cs → cs.length ≤ most → H' p = some (.lst (cs.map V.int)) → H p = none → p ≠ x → LS K H' x y → Kp x H H' → Q (.ref p) H'
def spCents (K : PySem.W.Frag) : Sp := fun vs H Q _ => ∃ (x y : Addr), vs = [.ref x] ∧ LS K H x y ∧ ∀ p cs H', CP cs → cs.length ≤ 4 → H' p = some (.lst (cs.map V.int)) → H p = none → p ≠ x → LS K H' x y → Kp x H H' → Q (.ref p) H'
theorem Kp.free {x p : Addr} {H H' : Hp} (k : Kp x H H') (hp : H' p = none) (ne : p ≠ x) : H p = none := by
  cases e : H p with
  | none => rfl
  | some u => rw [k p u ne e] at hp; cases hp
section
variable {P : Program} {w : World} {K : PySem.W.Frag} {mg : Str → Option Value} {base : Heap} {a : Ad} {er : Er2}
theorem ok__law_changes (T : Txt K mg a) : FnOk P w K mg base CX0 2 a.f__law_changes a.d__law_changes ["_law_state", "_law_most"] (spChgs K) := by
  have G__law_drawn : FnOk P w K mg base CX0 1 a.f__law_drawn a.d__law_drawn ["_law_state", "_law_count"] (spDrawn K) := ok__law_drawn T
  refine T.F__law_changes.ok sc__law_changes (fun vs H Q E h => ?_) (fun cdv A outer s H vs Q E hr h => ?_)
  · obtain ⟨x, y, most, rfl, _⟩ := h
    rfl
  · obtain ⟨x, y, most, rfl, ls, m1, m24, k⟩ := h
    refine ⟨_, (pss_cons (ps_set (i := 2) sc__law_changes.nd rfl (Or.inr rfl) (pe_ix ix_list (pe_lst (pa_cons pe_int (pa_cons pe_int (pa_cons pe_int pa_nil)))) (pe_call G__law_drawn (hr.mono (by decide)) (by rfl) T.mg__law_drawn T.F__law_drawn.kp (b__law_drawn T) .nil pass0 (pa_cons (pv 0) (pa_cons pe_int pa_nil))) (fun _ _ => rfl)))
      (pss_one (ps_ret (pe_lc (own := [("_law_k", 3)]) (g := gName 3) rfl sc__law_changes.nd (pi_range1 (by rfl) T.z_range (pa_cons (pe_op op_add pe_int (pe_call G__law_drawn (hr.mono (by decide)) (by rfl) T.mg__law_drawn T.F__law_drawn.kp (b__law_drawn T) .nil pass0 (pa_cons (pv 0) (pa_cons (pv 1) pa_nil)))) pa_nil)) (blkOk_by (own := [("_law_k", 3)]) (N := ["_law_state", "_law_most", "_law_high", "_law_k"]) (sc := (defScope s__law_changes)) (by decide +kernel)) (fun _ _ _ _ _ => pg_name (i := 3) sc__law_changes.nd rfl (Or.inl rfl)) (fun _ _ _ _ _ => pts_nil) (fun _ _ _ _ _ => (pe_op op_sub (pe_call G__law_drawn (hr.mono (by decide)) (by rfl) T.mg__law_drawn T.F__law_drawn.kp (b__law_drawn T) .nil pass0 (pa_cons (pv 0) (pa_cons (pe_op op_add (pe_op op_mul pe_int (pv 2)) pe_int) pa_nil))) (pv 2))))))), ?_⟩
    refine ⟨by show 3 ≤ sizeLine; decide, fun L nL => ?_⟩
    have sL := same_upd (o := .lst [.int 3, .int 9, .int 100]) nL
    have oL := ls.off nL
    refine ⟨_, rfl, x, y, 3, rfl, ls.same sL, by decide, by decide, fun r H1 r0 r1 ls1 k1 => ?_⟩
    obtain ⟨e, he, hat⟩ := pickI (es := [3, 9, 100]) r0 r1
    have he : e = 3 ∨ e = 9 ∨ e = 100 := by simpa using he
    have hL := k1 _ _ oL upd_same
    have k1 := (Kp.of sL).trans k1
    refine ⟨L, _, _, _, rfl, rfl, SqL.of hL, hat, ?_⟩
    refine ⟨_, rfl, _, rfl, x, y, (most : Int), rfl, ls1, by omega, by omega, fun r2 H2 r20 r21 ls2 k2 => ?_⟩
    have k2 := k1.trans k2
    refine ⟨_, _, rfl, rfl, 1 + r2, rfl, by omega, by omega, fun D nD => have ny := ls2.fresh nD; lc_range (lo := 0) (n := (1 + r2).toNat) (fun i H' => ∃ rs : List Int, rs.length = i ∧ (∀ r ∈ rs, -100 ≤ r ∧ r ≤ 100) ∧ H' D = some (.lst (rs.map V.int)) ∧ LS K H' x y ∧ Kp x H H') ⟨[], rfl, (fun r hr => by cases hr), upd_same, ls2.same (same_upd nD), k2.trans (Kp.of (same_upd nD))⟩ ?_ ?_⟩
    · rintro i H' hi ⟨rs, rl, rb, hD, ls', k'⟩
      have nx := ls2.off nD
      refine ⟨rfl, _, rfl, _, rfl, _, _, rfl, rfl, .inl ⟨by omega, by omega⟩, _, _, rfl, rfl, x, y, _, rfl, ls', by omega, by omega, fun r3 H3 r30 r31 ls3 k3 => ?_⟩
      have hD3 := k3 _ _ nx hD
      have hDn := k2.free nD nx
      refine ⟨_, rfl, _, _, rfl, rfl, _, hD3, by rw [List.length_map]; exact small1000 (by omega), rs ++ [r3 - e], by rw [List.length_append, rl]; rfl, fun z hz => ?_, by rw [upd_same, List.map_append]; rfl, ls3.updD nx ny, fun b o nb e => ?_⟩
      · rcases List.mem_append.mp hz with hz | hz
        · exact rb z hz
        · rw [List.mem_singleton.mp hz]; omega
      · rw [upd_ne (ne_of_none e hDn)]
        exact k3 _ _ nb (k' _ _ nb e)
    · rintro H3 ⟨rs, rl, rb, hD, ls3, k3⟩
      have nx := ls2.off nD
      have e1 : ((1 : Int) + r2).toNat = rs.length := rl.symm
      exact k D rs H3 ⟨by omega, by omega, rb⟩ (by omega) hD (k2.free nD nx) nx ls3 k3
theorem ok__law_cents (T : Txt K mg a) : FnOk P w K mg base CX0 2 a.f__law_cents a.d__law_cents ["_law_state"] (spCents K) := by
  have G__law_drawn : FnOk P w K mg base CX0 1 a.f__law_drawn a.d__law_drawn ["_law_state", "_law_count"] (spDrawn K) := ok__law_drawn T
  refine T.F__law_cents.ok sc__law_cents (fun vs H Q E h => ?_) (fun cdv A outer s H vs Q E hr h => ?_)
  · obtain ⟨x, y, rfl, _⟩ := h
    rfl
  · obtain ⟨x, y, rfl, ls, k⟩ := h
    refine ⟨_, (pss_one (ps_ret (pe_lc (own := [("_law_k", 1)]) (g := gName 1) rfl sc__law_cents.nd (pi_range1 (by rfl) T.z_range (pa_cons (pe_op op_add pe_int (pe_call G__law_drawn (hr.mono (by decide)) (by rfl) T.mg__law_drawn T.F__law_drawn.kp (b__law_drawn T) .nil pass0 (pa_cons (pv 0) (pa_cons pe_int pa_nil)))) pa_nil)) (blkOk_by (own := [("_law_k", 1)]) (N := ["_law_state", "_law_k"]) (sc := (defScope s__law_cents)) (by decide +kernel)) (fun _ _ _ _ _ => pg_name (i := 1) sc__law_cents.nd rfl (Or.inl rfl)) (fun _ _ _ _ _ => pts_nil) (fun _ _ _ _ _ => (pe_call G__law_drawn (hr.mono (by decide)) (by rfl) T.mg__law_drawn T.F__law_drawn.kp (b__law_drawn T) .nil pass0 (pa_cons (pv 0) (pa_cons (pe_ix (show IxR _ (rIxL K) from ix_list) (pe_lst (pa_cons pe_int (pa_cons pe_int (pa_cons (pe_op op_pow pe_int pe_int) pa_nil)))) (pe_call G__law_drawn (hr.mono (by decide)) (by rfl) T.mg__law_drawn T.F__law_drawn.kp (b__law_drawn T) .nil pass0 (pa_cons (pv 0) (pa_cons pe_int pa_nil))) (fun _ _ => rfl)) pa_nil))))))), ?_⟩
    refine ⟨_, rfl, x, y, 4, rfl, ls, by decide, by decide, fun r2 H2 r20 r21 ls2 k2 => ?_⟩
    refine ⟨_, _, rfl, rfl, 1 + r2, rfl, by omega, by omega, fun D nD => have ny := ls2.fresh nD; lc_range (lo := 0) (n := (1 + r2).toNat) (fun i H' => ∃ rs : List Int, rs.length = i ∧ (∀ r ∈ rs, 0 ≤ r ∧ r ≤ 1000000) ∧ H' D = some (.lst (rs.map V.int)) ∧ LS K H' x y ∧ Kp x H H') ⟨[], rfl, (fun r hr => by cases hr), upd_same, ls2.same (same_upd nD), k2.trans (Kp.of (same_upd nD))⟩ ?_ ?_⟩
    · rintro i H' hi ⟨rs, rl, rb, hD, ls', k'⟩
      have nx := ls2.off nD
      have hDn := k2.free nD nx
      refine ⟨rfl, _, rfl, _, _, rfl, rfl, ⟨by decide, by decide, by decide⟩, by show 3 ≤ sizeLine; decide, fun L nL => ?_⟩
      have sL := same_upd (o := .lst [.int 3, .int 30, .int (10 ^ (6 : Int).toNat)]) nL
      have oL := ls'.off nL
      refine ⟨_, rfl, x, y, 3, rfl, ls'.same sL, by decide, by decide, fun r H4 r0 r1 ls4 k4 => ?_⟩
      obtain ⟨e, he, hat⟩ := pickI (es := [3, 30, 10 ^ (6 : Int).toNat]) r0 r1
      have he : e = 3 ∨ e = 30 ∨ e = 1000000 := by rw [pow6] at he; simpa using he
      have hL := k4 _ _ oL upd_same
      have k4 := (Kp.of sL).trans k4
      refine ⟨L, _, _, _, rfl, rfl, SqL.of hL, hat, x, y, e, rfl, ls4, by omega, by omega, fun r3 H3 r30 r31 ls3 k3 => ?_⟩
      have hD3 := k3 _ _ nx (k4 _ _ nx hD)
      refine ⟨_, hD3, by rw [List.length_map]; exact small1000 (by omega), rs ++ [r3], by rw [List.length_append, rl]; rfl, fun z hz => ?_, by rw [upd_same, List.map_append]; rfl, ls3.updD nx ny, fun b o nb e => ?_⟩
      · rcases List.mem_append.mp hz with hz | hz
        · exact rb z hz
        · rw [List.mem_singleton.mp hz]; omega
      · rw [upd_ne (ne_of_none e hDn)]
        exact k3 _ _ nb (k4 _ _ nb (k' _ _ nb e))
    · rintro H3 ⟨rs, rl, rb, hD, ls3, k3⟩
      have nx := ls2.off nD
      have e1 : ((1 : Int) + r2).toNat = rs.length := rl.symm
      exact k D rs H3 ⟨by omega, by omega, rb⟩ (by omega) hD (k2.free nD nx) nx ls3 k3
end
end W6

/-! the frame rule: a def leaves alone the lists that its promise does not see -/
namespace Ru
open PySem PySem.Spec PyProof.Rows L2
/-- without some objects -/
def cut (H : Hp) (S : List Addr) : Hp := fun b => if b ∈ S then none else H b
/-- the objects of S from H, the others from H' -/
def mix (S : List Addr) (H H' : Hp) : Hp := fun b => if b ∈ S then H b else H' b
theorem cut_in {H : Hp} {S : List Addr} {b : Addr} (h : b ∉ S) : cut H S b = H b := if_neg h
theorem cut_at {H : Hp} {S : List Addr} {b : Addr} (h : b ∈ S) : cut H S b = none := if_pos h
theorem mix_in {H H' : Hp} {S : List Addr} {b : Addr} (h : b ∈ S) : mix S H H' b = H b := if_pos h
theorem mix_out {H H' : Hp} {S : List Addr} {b : Addr} (h : b ∉ S) : mix S H H' b = H' b := if_neg h
/-- the promise, framed: S are lists -/
def spFrame (sp : Sp) : Sp := fun vs H Q E => ∃ S : List Addr, (∀ y ∈ S, ∃ xs, H y = some (.lst xs)) ∧ sp vs (cut H S) (fun v H0 => (∀ y ∈ S, H0 y = none) → Q v (mix S H H0)) E
section
variable {P : Program} {w : World} {K : PySem.W.Frag} {mg : Str → Option Value} {base : Heap} {k : Nat} {f : Addr} {fd : FuncData} {ps : List Str} {sp : Sp}
theorem hok_cut {H : Hp} {h : Heap} {S : List Addr} (ok : HOk P w H h) (l : ∀ y ∈ S, ∃ xs, H y = some (.lst xs)) : HOk P w (cut H S) h := fun b o e => by
  by_cases hb : b ∈ S
  · rw [cut_at hb] at e; cases e
  · rw [cut_in hb] at e
    refine (ok b o e).stay (fun _ _ _ q => q) (fun c q => ?_) (fun c xs q => ?_)
    · rw [cut_in fun m => ?_]
      · exact q
      · obtain ⟨xs, z⟩ := l c m
        rw [q] at z; cases z
    · rw [cut_in fun m => ?_]
      · exact q
      · obtain ⟨ys, z⟩ := l c m
        rw [q] at z; cases z
theorem _root_.L2.FnOk.frame (F : FnOk P w K mg base CX0 k f fd ps sp) : FnOk P w K mg base CX0 k f fd ps (spFrame sp) := by
  refine ⟨fun vs H Q E h => ?_, fun A outer s H args us vs Q E hr he hb hv h => ?_⟩
  · obtain ⟨S, _, h⟩ := h
    exact F.len _ _ _ _ h
  · obtain ⟨S, l, h⟩ := h
    have he' : Env0 P w K mg base A outer s (cut H S) := by
      refine ⟨he.frames, he.mod, fun b o q => ⟨(he.bs b o q).1, ?_⟩, he.bsz, he.funs, fun b q => ?_, hok_cut he.hok l, he.bare⟩
      · by_cases m : b ∈ S
        · exact cut_at m
        · rw [cut_in m]; exact (he.bs b o q).2
      · by_cases m : b ∈ S
        · exact cut_at m
        · rw [cut_in m]; exact he.frf b q
    refine codeAny_mono (F.run A outer s (cut H S) args us vs _ E hr he' hb hv h) fun r s' hq => ?_
    cases r with
    | error e => exact hq
    | ok fl =>
      cases fl with
      | next => exact hq
      | brk => exact hq
      | cont => exact hq
      | ret u =>
        obtain ⟨v, H0, os, bare, un, hok, rv, q⟩ := hq
        have n0 : ∀ y ∈ S, H0 y = none := fun y hy => by
          obtain ⟨xs, z⟩ := l y hy
          obtain ⟨_, its, n, _, e⟩ := he.hok y _ z
          exact un.free y _ e (cut_at hy) (by simp)
        refine ⟨v, mix S H H0, os, bare, ?_, ?_, rv, q n0⟩
        · refine ⟨fun b o e hn => ?_, fun b o e hn => ?_, fun b o e hn hx => ?_, un.there, fun b xs e => ?_, fun b o u e => ?_, fun b ps e => ?_⟩
          · have m : b ∉ S := fun m => by obtain ⟨xs, z⟩ := l b m; rw [hn] at z; cases z
            exact un.keep b o e (by rw [cut_in m]; exact hn)
          · have m : b ∉ S := fun m => by obtain ⟨xs, z⟩ := l b m; rw [hn] at z; cases z
            exact un.slot b o e (by rw [cut_in m]; exact hn)
          · have m : b ∉ S := fun m => by obtain ⟨xs, z⟩ := l b m; rw [hn] at z; cases z
            rw [mix_out m]
            exact un.free b o e (by rw [cut_in m]; exact hn) hx
          · have m : b ∉ S := fun m => by obtain ⟨xs, z⟩ := l b m; rw [e] at z; cases z
            rw [mix_out m]
            exact un.tups b xs (by rw [cut_in m]; exact e)
          · have m : b ∉ S := fun m => by obtain ⟨xs, z⟩ := l b m; rw [e] at z; cases z
            rw [mix_out m]
            exact un.frzs b o u (by rw [cut_in m]; exact e)
          · have m : b ∉ S := fun m => by obtain ⟨xs, z⟩ := l b m; rw [e] at z; cases z
            rw [mix_out m]
            exact un.tbls b ps (by rw [cut_in m]; exact e)
        · intro b o e
          by_cases m : b ∈ S
          · rw [mix_in m] at e
            obtain ⟨xs, z⟩ := l b m
            rw [e] at z
            cases z
            obtain ⟨sz, its, n, rs, e2⟩ := he.hok b _ e
            refine ⟨sz, its, n, rs, un.keep b _ e2 (cut_at m) (fun hf => ?_) (by simp)⟩
            have := he.frf b hf
            rw [e] at this; cases this
          · rw [mix_out m] at e
            refine (hok b o e).stay (fun _ _ _ q => q) (fun c q => ?_) (fun c xs q => ?_)
            · rw [mix_out fun mc => ?_]
              · exact q
              · rw [n0 c mc] at q; cases q
            · rw [mix_out fun mc => ?_]
              · exact q
              · rw [n0 c mc] at q; cases q
end
end Ru

/-! lists outside (the state of the draws) and rooms -/
namespace W6
open PySem PySem.Spec PyProof.Rows L2 Ru StX LamX
theorem cut_some {H : Hp} {S : List Addr} {b : Addr} {o : HO} (e : cut H S b = some o) : b ∉ S ∧ H b = some o := by
  by_cases m : b ∈ S
  · rw [cut_at m] at e; cases e
  · rw [cut_in m] at e; exact ⟨m, e⟩
theorem cut_same {H : Hp} {S : List Addr} : Same (cut H S) H := fun _ _ e => (cut_some e).2
theorem cut_to {H H' : Hp} {S : List Addr} (s : Same H H') : Same (cut H S) (cut H' S) := fun b o e => by
  obtain ⟨m, e⟩ := cut_some e
  rw [cut_in m]; exact s _ _ e
theorem cut_kp {H H' : Hp} {x : Addr} {S : List Addr} (m : x ∈ S) (k : Kp x H H') : Same (cut H S) (cut H' S) := fun b o e => by
  obtain ⟨n, e⟩ := cut_some e
  rw [cut_in n]; exact k _ _ (fun q => n (q ▸ m)) e
theorem cut_new {H H' : Hp} {x U : Addr} (nU : H U = none) (s : Same H H') : Same (cut H [x]) (cut H' [x, U]) := fun b o e => by
  obtain ⟨n, e⟩ := cut_some e
  have nx : b ≠ x := fun q => n (by rw [q]; exact List.mem_singleton.mpr rfl)
  rw [cut_in fun m => ?_]
  · exact s _ _ e
  · rcases List.mem_cons.mp m with q | q
    · exact nx q
    · rw [List.mem_singleton.mp q, nU] at e; cases e
/-- a promise by which lists outside are left alone, used where such lists are -/
theorem frame_same {H H0 : Hp} {x : Addr} (s : Same (cut H [x]) H0) (n0 : ∀ q ∈ [x], H0 q = none) : Kp x H (mix [x] H H0) ∧ cut (mix [x] H H0) [x] = H0 ∧ Same H (mix [x] H H0) ∧ ∀ b o, H0 b = some o → mix [x] H H0 b = some o := by
  have sm : Same H (mix [x] H H0) := fun b o e => by
    by_cases m : b ∈ [x]
    · rw [mix_in m]; exact e
    · rw [mix_out m]; exact s _ _ (by rw [cut_in m]; exact e)
  refine ⟨Kp.of sm, ?_, sm, fun b o e => ?_⟩
  · funext b
    by_cases m : b ∈ [x]
    · rw [cut_at m, n0 b m]
    · rw [cut_in m, mix_out m]
  · rw [mix_out fun m => ?_]
    · exact e
    · rw [n0 b m] at e; cases e
theorem tabs_lst {Tb : List (Addr × Str)} {H H' : Hp} {U : Addr} {xs : List V} (hU : H U = some (.lst xs)) (k : Kp U H H') (h : Tabs Tb H) : Tabs Tb H' := by
  have go : ∀ {b : Addr} {o : HO}, H b = some o → (∀ xs, o ≠ .lst xs) → H' b = some o := fun {b o} e n => k _ _ (fun q => by rw [q, hU] at e; injection e with e; exact n _ e.symm) e
  intro p hp
  obtain ⟨ps, a1, a2, a3⟩ := h p hp
  refine ⟨ps, go a1 (fun xs z => nomatch z), a2, fun pos cv hc => ?_⟩
  obtain ⟨c, e1, e2⟩ := a3 pos cv hc
  exact ⟨c, e1, go e2 (fun xs z => nomatch z)⟩
theorem WAt.kp {K : PySem.W.Frag} {a : Ad} {x y z : Addr} {cs : List Int} {H H' : Hp} (h : WAt a H z cs) (ls : LS K H x y) (k : Kp x H H') : WAt a H' z cs := let ⟨dx, t, h1, h2⟩ := h; ⟨dx, t, k.get ls h1 (fun _ z => nomatch z), k.get ls h2 (fun _ z => nomatch z)⟩
theorem PAt.kp {K : PySem.W.Frag} {a : Ad} {x y z : Addr} {cs : List Int} {H H' : Hp} (h : PAt a H z cs) (ls : LS K H x y) (k : Kp x H H') : PAt a H' z cs := let ⟨dx, t, h1, h2⟩ := h; ⟨dx, t, k.get ls h1 (fun _ z => nomatch z), k.get ls h2 (fun _ z => nomatch z)⟩
theorem and_step {c1 c2 : TT} {σ : L2.St} {H : Hp} {Q : Bool → Hp → Prop} (h : c1 σ H fun b H1 => if b = true then c2 σ H1 Q else Q false H1) : tAnd c1 c2 σ H Q := h
theorem ws_appendS {X : Cx} {T : List (Addr × Str)} {H0 H : Hp} {W : Addr} {ls : List Lm} {K : PySem.W.Frag} {j : Nat} {σ : L2.St} {D : Ends} {u : TS} {pa : Arguments} {bo : Expr} {sc : Scope} {ds : List V} (w : WS X T H0 H W ls) (hj : σ[j]? = some (some (.ref W))) (hz : ls.length ≤ 1000) (k : ∀ H' f, WS X T H0 H' W (ls ++ [⟨f, pa, bo, sc, ds⟩]) → u D σ H') : tSeq (tDrop (tBM K "list" rAppend (tVar j) (tCons (tLamV T X pa bo sc ds) tNil))) u D σ H :=
  ws_append (D := { D with nx := u D }) w hj hz k
theorem cut_nl {H : Hp} {S : List Addr} {b : Addr} {o : HO} (l : ∀ y ∈ S, ∃ xs, H y = some (.lst xs)) (e : H b = some o) (n : ∀ xs, o ≠ .lst xs) : cut H S b = some o := by
  rw [cut_in fun m => ?_]
  · exact e
  · obtain ⟨xs, z⟩ := l b m
    rw [e] at z
    exact n _ (Option.some.inj z)
section
variable {a : Ad}
theorem DAt.ext {H H' : Hp} {z : Addr} {cs : List Int} {g : Int} (h : DAt a H z cs g) (f : ExtN H H') : DAt a H' z cs g := by
  obtain ⟨⟨c, g0, g1⟩, dd, l, hz, hl⟩ := h
  exact ⟨⟨c, g0, g1⟩, dd, l, f _ _ hz (fun _ q => nomatch q), f _ _ hl (fun _ q => nomatch q)⟩
theorem SAt.ext {H H' : Hp} {z : Addr} {cs : List Int} {g base : Int} {on : Bool} {b : Nat} (h : SAt a H z cs g on b base) (f : ExtN H H') : SAt a H' z cs g on b base := by
  obtain ⟨dd, td, d, hz, ⟨d0, d1, ht, D0, D1⟩, D⟩ := h
  exact ⟨dd, td, d, f _ _ hz (fun _ q => nomatch q), ⟨d0, d1, f _ _ ht (fun _ q => nomatch q), D0.ext f, D1.ext f⟩, D.ext f⟩
theorem TAt.ext {H H' : Hp} {z : Addr} {bs : List Nat} {back : Option Nat} (h : TAt a H z bs back) (f : ExtN H H') : TAt a H' z bs back := by
  obtain ⟨dx, lb, h1, h2⟩ := h
  exact ⟨dx, lb, f _ _ h1 (fun _ q => nomatch q), f _ _ h2 (fun _ q => nomatch q)⟩
theorem YAt.ext {H H' : Hp} {z : Addr} {p : Th.Par} {bs : List Nat} {back : Option Nat} (h : YAt a H z p bs back) (f : ExtN H H') : YAt a H' z p bs back := by
  obtain ⟨dx, am, tl, ls, h1, h2, h3, h4⟩ := h
  exact ⟨dx, am, tl, ls, f _ _ h1 (fun _ q => nomatch q), f _ _ h2 (fun _ q => nomatch q), h3.ext f, f _ _ h4 (fun _ q => nomatch q)⟩
theorem CAt.ext {H H' : Hp} {z : Addr} {p : Th.Par} {bs : List Nat} {back : Option Nat} (h : CAt a H z p bs back) (f : ExtN H H') : CAt a H' z p bs back := by
  obtain ⟨dx, ls, tl, hs, qs, h1, h2, h3, h4, h5, h6⟩ := h
  exact ⟨dx, ls, tl, hs, qs, f _ _ h1 (fun _ q => nomatch q), f _ _ h2 (fun _ q => nomatch q), h3, fun i q b e1 e2 => (h4 i q b e1 e2).ext f, h5.ext f, h6.ext f⟩
theorem RAt.ext {H H' : Hp} {z : Addr} {p : Th.Par} (h : RAt a H z p) (f : ExtN H H') : RAt a H' z p := by
  obtain ⟨dx, ww, hh, c, u, bs, back, h1, h2, h3, ⟨dw, tw, w1, w2⟩, ⟨dh, h5⟩⟩ := h
  exact ⟨dx, ww, hh, c, u, bs, back, f _ _ h1 (fun _ q => nomatch q), h2.ext f, h3, ⟨dw, tw, f _ _ w1 (fun _ q => nomatch q), f _ _ w2 (fun _ q => nomatch q)⟩, ⟨dh, f _ _ h5 (fun _ q => nomatch q)⟩⟩
theorem room_in {K : PySem.W.Frag} {x c z dz ww hh : Addr} {H : Hp} {p : Th.Par} {Q : VK} {E : XK} (ls : LS K H x c) (nz : H z = none) (nd : H dz = none) (wt : WAt a H ww p.ch) (ht : HAt a H hh p.g p.lo p.hi) (ok : p.Ok) (k : ∀ H', Same H H' → RAt a (cut H' [x]) z p → Q .non H') :
    spFrame (spRi a) [.ref z, .ref ww, .ref hh, .int p.st, .bl p.on0] (upd (upd H dz (.own z)) z (.ins a.c_Room dz [])) Q E := by
  have sz := same_made (x := z) (dx := dz) (C := a.c_Room) nz nd
  obtain ⟨dw, tw, w1, w2⟩ := wt
  obtain ⟨dh, h1⟩ := ht
  have lsz : ∀ y ∈ [x], ∃ xs, (upd (upd H dz (.own z)) z (.ins a.c_Room dz [])) y = some (.lst xs) := fun y hy => by
    obtain ⟨ns, i, m, e, hx, _⟩ := ls
    rw [List.mem_singleton.mp hy]
    exact ⟨_, sz _ _ hx⟩
  refine ⟨[x], lsz, z, dz, ww, hh, p, rfl, cut_nl lsz upd_same (fun _ z => nomatch z), ⟨dw, tw, cut_nl lsz (sz _ _ w1) (fun _ z => nomatch z), cut_nl lsz (sz _ _ w2) (fun _ z => nomatch z)⟩, ⟨dh, cut_nl lsz (sz _ _ h1) (fun _ z => nomatch z)⟩, ok, fun H0 fr0 ra n0 => ?_⟩
  refine k _ (fun b u e => ?_) ?_
  · by_cases m : b ∈ [x]
    · rw [mix_in m]; exact sz _ _ e
    · rw [mix_out m]; exact fr0 b u (ne_of_none e nz) (by rw [cut_in m]; exact sz _ _ e)
  · have e : cut (mix [x] (upd (upd H dz (.own z)) z (.ins a.c_Room dz [])) H0) [x] = H0 := by
      funext b
      by_cases m : b ∈ [x]
      · rw [cut_at m, n0 b m]
      · rw [cut_in m, mix_out m]
    rw [e]; exact ra
theorem room_inF {K : PySem.W.Frag} {x c z dz ww hh : Addr} {H : Hp} {p : Th.Par} {Q : VK} {E : XK} (ls : LS K H x c) (nz : H z = none) (nd : H dz = none) (wt : WAt a H ww p.ch) (ht : HAt a H hh p.g p.lo p.hi) (ok : p.Ok) (eo : p.on0 = false) (k : ∀ H', Same H H' → RAt a (cut H' [x]) z p → Q .non H') :
    spFrame (spRi a) [.ref z, .ref ww, .ref hh, .int p.st, .bl false] (upd (upd H dz (.own z)) z (.ins a.c_Room dz [])) Q E := by
  have h := room_in (E := E) ls nz nd wt ht ok k
  rw [eo] at h
  exact h
end
end W6

namespace W6
open PySem PySem.Spec PyProof.Rows L2 Ru StX LamX
def spLawK (K : PySem.W.Frag) : Sp := fun vs H Q _ => ∃ (c : Addr) (ns : List Int), vs = [.ref c] ∧ SqL K H c (ns.map V.int) ∧ ns.length ≤ 63 ∧ ∀ H', Q (.bl true) H'
def RepV (H : Hp) (v : V) (r : Option (Nat × Nat)) : Prop := (r = none ∧ v = .non) ∨ ∃ (z : Addr) (f T : Nat), r = some (f, T) ∧ v = .ref z ∧ H z = some (.tup [.int f, .int T])
def spRep2 (a : Ad) : Sp := fun vs H Q _ => ∃ (x : Addr) (p : Th.Par), vs = [.ref x] ∧ RAt a H x p ∧ ∀ v H' r, Same H H' → RepV H' v r → Th.IsRep p r → (∀ f T, r = some (f, T) → Th.Per p f T ∧ 1 ≤ T ∧ f + T ≤ 480100000000000100) → Q v H'
def spLowest : Sp := fun vs H Q _ => ∃ (t b : Nat), vs = [.int t, .int b] ∧ 1 ≤ b ∧ Nat.gcd t b = 1 ∧ ∀ H', Same H H' → Q (.bl true) H'
theorem drawn_of {K : PySem.W.Frag} {σ : L2.St} {H : Hp} {x c : Addr} {te : TE} {Q : VK} (m n : Int) (hv : σ[1]? = some (some (.ref x))) (ls : LS K H x c) (m0 : 0 < m ∧ m < 18446744073709551616) (n0 : 0 < n ∧ n < 18446744073709551616) (hte : ∀ Q7 : VK, (∀ L H', H L = none → H' = upd H L (.lst [.int m, .int n]) → Q7 (.ref L) H') → te σ H Q7)
    (k : ∀ r H', 0 ≤ r → (r < m ∨ r < n) → LS K H' x c → Kp x H H' → Q (.int r) H') : tCall (spDrawn K) [] E0 (tCons (tVar 1) (tCons (tOp (rIxL K) te (tCall (spDrawn K) [] E0 (tCons (tVar 1) (tCons (tC (.int 2)) tNil)))) tNil)) σ H Q := by
  refine ⟨_, hv, hte _ fun L H' nL eH => ?_⟩
  subst eH
  have sL := same_upd (o := .lst [.int m, .int n]) nL
  have oL := ls.off nL
  refine ⟨_, hv, x, c, 2, rfl, ls.same sL, by decide, by decide, fun r H4 r0 r1 ls4 k4 => ?_⟩
  obtain ⟨e, he, hat⟩ := pickI (es := [m, n]) r0 r1
  have he : e = m ∨ e = n := by simpa using he
  refine ⟨L, _, _, _, rfl, rfl, SqL.of (k4 _ _ oL upd_same), hat, x, c, e, rfl, ls4, by omega, by omega, fun r2 H5 a0 a1 ls5 k5 => ?_⟩
  exact k r2 H5 a0 (by rcases he with rfl | rfl; exact .inl a1; exact .inr a1) ls5 (((Kp.of sL).trans k4).trans k5)
section
variable {P : Program} {w : World} {K : PySem.W.Frag} {mg : Str → Option Value} {base : Heap} {a : Ad} {er : Er2}
theorem ri_b (T : Txt K mg a) : ∃ ds, Vals [V.bl false] ds ∧ Binds K a.d_Room_init ["self", "weather", "heater", "start", "on"] ds :=
  FunD.binds0 (ps := ["self", "weather", "heater", "start", "on"]) T.F_Room_init 4 (by simp) rfl fun D doc pm an cdv ct us ks l1 l2 => match us, ks, l1, l2 with | [_, _, _, _], [_], _, _ => ⟨_, _, _, _, _, _, rfl, rfl, rfl⟩
theorem rep2 (T : Txt K mg a) : FnOk P w K mg base CX0 3 a.f_Room_repetition a.d_Room_repetition ["self"] (spRep2 a) := (ok_Room_repetition T).imp fun vs H Q E h => by
  obtain ⟨x, p, rfl, ⟨dx, ww, hh, c, u, bs, back, hx, ca, co, _⟩, k⟩ := h
  refine ⟨x, p, dx, ww, hh, c, u, bs, back, rfl, hx, ca, co, fun H' s rec => ?_, fun z H' f t s nz hz rec => ?_⟩
  · exact k .non H' none s (.inl ⟨rfl, rfl⟩) (rec.isRep co) (fun f T e => nomatch e)
  · refine k (.ref z) H' (some (f, t)) s (.inr ⟨z, f, t, rfl, rfl, hz⟩) (rec.isRep co) (fun f' T' e => ?_)
    cases e
    exact rec.per co
theorem ok__law_is_lowest (T : Txt K mg a) : FnOk P w K mg base CX0 1 a.f__law_is_lowest a.d__law_is_lowest ["_law_numerator", "_law_denominator"] spLowest := by
  refine T.F__law_is_lowest.ok sc__law_is_lowest (fun vs H Q E h => ?_) (fun cdv A outer s H vs Q E hr h => ?_)
  · obtain ⟨t, b, rfl, _⟩ := h
    rfl
  · obtain ⟨t, b, rfl, b1, g1, k⟩ := h
    refine ⟨_, (pss_cons (ps_setLc (i := 2) (own := [("_law_k", 3)]) (g := gName 3) rfl sc__law_is_lowest.nd rfl rfl (sw_true rfl rfl rfl (by decide +kernel)) (pi_range2 (by rfl) T.z_range (pa_cons pe_int (pa_cons pe_int pa_nil))) (blkOk_by (own := [("_law_k", 3)]) (N := ["_law_numerator", "_law_denominator", "_law_small", "_law_k"]) (sc := (defScope s__law_is_lowest)) (by decide +kernel)) (fun _ _ _ _ _ => pg_name (i := 3) sc__law_is_lowest.nd rfl (Or.inl rfl)) (fun _ _ _ _ _ => pts_one (PW.pt (pw_and (pt_cmpR op_eq (pe_op op_mod (pv 0) (pv 3)) pe_int (nomark _)) (pw_and1 (pt_cmpR op_eq (pe_op op_mod (pv 1) (pv 3)) pe_int (nomark _)))))) (fun _ _ _ _ _ => (pv 3)))
      (pss_one (ps_ret (pe_and (pe_cmpR op_gt (pv 1) pe_int (nomark _)) (pe_and (pe_cmpR (op_eqD hr.units) (pv 2) (pe_lst pa_nil) (nomark _)) (pe_one (pe_or (pe_cmpR op_ne (pv 0) pe_int (nomark _)) (pe_one (pe_cmpR op_eq (pv 1) pe_int (nomark _)))))))))), ?_⟩
    refine ⟨2, 60, rfl, ⟨by decide, by decide, by decide, by decide⟩, fun D nD => lc_range (lo := 2) (n := ((60 : Int) - 2).toNat) (fun i H' => Same H H' ∧ H' D = some (.lst [])) ⟨same_upd nD, upd_same⟩ ?_ ?_⟩
    · rintro i H' hi ⟨s1, hD⟩
      have hi : i < 58 := hi
      refine ⟨rfl, ?_⟩
      refine and_step ?_
      have e2 : (2 : Int) + (i : Int) = ((2 + i : Nat) : Int) := by omega
      have em : ∀ n : Nat, (n : Int) % ((2 + i : Nat) : Int) = ((n % (2 + i) : Nat) : Int) := fun n => rfl
      refine ⟨_, rfl, _, rfl, _, _, rfl, rfl, by omega, rfl, _, rfl, ?_⟩
      by_cases c1 : t % (2 + i) = 0
      · refine ifT (dT (congrArg V.int (by rw [e2, em, c1]; rfl))) ?_
        refine ⟨_, rfl, _, rfl, _, _, rfl, rfl, by omega, rfl, _, rfl, ?_⟩
        refine ifF (dF fun z => ?_) ⟨s1, hD⟩
        have z2 : (b : Int) % (2 + (i : Int)) = 0 := by injection z
        rw [e2, em] at z2
        have c2 : b % (2 + i) = 0 := by omega
        have := Nat.dvd_gcd (Nat.dvd_of_mod_eq_zero c1) (Nat.dvd_of_mod_eq_zero c2)
        rw [g1] at this
        have := Nat.le_of_dvd (by decide) this
        omega
      · refine ifF (dF fun z => c1 ?_) (ifF rfl ⟨s1, hD⟩)
        have z2 : (t : Int) % (2 + (i : Int)) = 0 := by injection z
        rw [e2, em] at z2
        omega
    · rintro H' ⟨s1, hD⟩
      have sn : ∀ {p : Addr}, H' p = none → Same H (upd H' p (.lst [])) := fun n => s1.trans (same_upd n)
      refine ⟨_, rfl, _, _, rfl, rfl, true, congrArg V.bl (dT (by omega)), ?_⟩
      refine ⟨_, rfl, by show 0 ≤ sizeLine; decide, fun em nem => eqL_ints (ns := []) (ms := []) (same_upd nem _ _ hD) upd_same ⟨true, rfl, ?_⟩⟩
      refine ifT rfl ?_
      by_cases t0 : t = 0
      · subst t0
        have b1' : b = 1 := by rw [Nat.gcd_zero_left] at g1; exact g1
        subst b1'
        refine ⟨_, rfl, rfl, false, rfl, ifF rfl ⟨_, rfl, rfl, ?_⟩⟩
        exact k _ (sn nem)
      · refine ⟨_, rfl, rfl, true, congrArg V.bl ?_, ifT rfl ?_⟩
        · rw [dF (fun z => t0 (by injection z with z; omega))]; rfl
        · exact k _ (sn nem)
set_option maxHeartbeats 0 in
theorem ok_law (T : Txt K mg a) (WM : WMu K a) : FnOk P w K mg base CX0 11 a.f_law a.d_law ["_law_script"] (spLawK K) := by
  have G__law_start : FnOk P w K mg base CX0 1 a.f__law_start a.d__law_start ["_law_script"] (spStart K) := ok__law_start T
  have G__law_drawn : FnOk P w K mg base CX0 1 a.f__law_drawn a.d__law_drawn ["_law_state", "_law_count"] (spDrawn K) := ok__law_drawn T
  have G__law_changes : FnOk P w K mg base CX0 2 a.f__law_changes a.d__law_changes ["_law_state", "_law_most"] (spChgs K) := ok__law_changes T
  have G__law_cents : FnOk P w K mg base CX0 2 a.f__law_cents a.d__law_cents ["_law_state"] (spCents K) := ok__law_cents T
  have G__law_weather : FnOk P w K mg base CX0 5 a.f__law_weather a.d__law_weather ["_law_changes_here"] (spWthr a) := ok__law_weather T WM
  have G__law_prices : FnOk P w K mg base CX0 4 a.f__law_prices a.d__law_prices ["_law_cents_here"] (spPrices a) := ok__law_prices T
  have G__law_is_lowest : FnOk P w K mg base CX0 1 a.f__law_is_lowest a.d__law_is_lowest ["_law_numerator", "_law_denominator"] spLowest := ok__law_is_lowest T
  have G_Heater_init : FnOk P w K mg base CX0 2 a.f_Heater_init a.d_Heater_init ["self", "gain", "low", "high"] (spHi a) := ok_Heater_init T
  have G_Prices_init : FnR P w K mg base CX0 2 a.f_Prices_init (spPs a) := ok_Prices_init T
  have G_Room_init : FnOk P w K mg base CX0 9 a.f_Room_init a.d_Room_init ["self", "weather", "heater", "start", "on"] (spFrame (spRi a)) := (ok_Room_init T).frame
  have G_Room_repetition : FnOk P w K mg base CX0 3 a.f_Room_repetition a.d_Room_repetition ["self"] (spRep2 a) := rep2 T
  have G_Room_heating_ticks : FnOk P w K mg base CX0 6 a.f_Room_heating_ticks a.d_Room_heating_ticks ["self", "count"] (spHt a) := ok_Room_heating_ticks T
  have G_Room_is_on : FnOk P w K mg base CX0 4 a.f_Room_is_on a.d_Room_is_on ["self", "tick"] (spIs a) := ok_Room_is_on T
  have G_heating_cost : FnOk P w K mg base CX0 7 a.f_heating_cost a.d_heating_cost ["room", "prices", "count"] (spCost a) := ok_heating_cost T
  have G_first_over : FnOk P w K mg base CX0 7 a.f_first_over a.d_first_over ["room", "prices", "budget"] (spOver a) := ok_first_over T
  have G_cost_share : FnOk P w K mg base CX0 7 a.f_cost_share a.d_cost_share ["room", "prices"] (spCshare a) := ok_cost_share T
  obtain ⟨rds, rid, rib⟩ := ri_b T
  refine T.F_law.ok sc_law (fun vs H Q E h => ?_) (fun cdv A outer s H vs Q E hr h => ?_)
  · obtain ⟨c, ns, rfl, _⟩ := h
    rfl
  · obtain ⟨c, ns, rfl, hS, hl, k⟩ := h
    refine ⟨_, (pss_cons (ps_set (i := 1) sc_law.nd rfl (Or.inl rfl) (pe_call G__law_start (hr.mono (by decide)) (by rfl) T.mg__law_start T.F__law_start.kp (b__law_start T) .nil pass0 (pa_cons (pv 0) pa_nil)))
      (pss_cons (ps_for PassesOwn.never rfl (pi_range1 (by rfl) T.z_range (pa_cons pe_int pa_nil)) (pg_name (i := 2) sc_law.nd rfl (Or.inl rfl))
        (pss_cons (ps_par (i := 3) (j := 4) (by rfl) sc_law.nd rfl rfl (by decide) rfl rfl (pa_cons (pe_call G__law_weather (hr.mono (by decide)) (by rfl) T.mg__law_weather T.F__law_weather.kp (b__law_weather T) .nil pass0 (pa_cons (pe_call G__law_changes (hr.mono (by decide)) (by rfl) T.mg__law_changes T.F__law_changes.kp (b__law_changes T) .nil pass0 (pa_cons (pv 1) (pa_cons pe_int pa_nil))) pa_nil)) (pa_cons (pe_op op_add pe_int (pe_call G__law_drawn (hr.mono (by decide)) (by rfl) T.mg__law_drawn T.F__law_drawn.kp (b__law_drawn T) .nil pass0 (pa_cons (pv 1) (pa_cons (pe_ix ix_list (pe_lst (pa_cons pe_int (pa_cons pe_int pa_nil))) (pe_call G__law_drawn (hr.mono (by decide)) (by rfl) T.mg__law_drawn T.F__law_drawn.kp (b__law_drawn T) .nil pass0 (pa_cons (pv 1) (pa_cons pe_int pa_nil))) (fun _ _ => rfl)) pa_nil)))) pa_nil)) (by rfl))
      (pss_cons (ps_set (i := 5) sc_law.nd rfl (Or.inl rfl) (pe_op op_sub (pe_call G__law_drawn (hr.mono (by decide)) (by rfl) T.mg__law_drawn T.F__law_drawn.kp (b__law_drawn T) .nil pass0 (pa_cons (pv 1) (pa_cons (pe_ix ix_list (pe_lst (pa_cons pe_int (pa_cons (pe_op op_pow pe_int pe_int) pa_nil))) (pe_call G__law_drawn (hr.mono (by decide)) (by rfl) T.mg__law_drawn T.F__law_drawn.kp (b__law_drawn T) .nil pass0 (pa_cons (pv 1) (pa_cons pe_int pa_nil))) (fun _ _ => rfl)) pa_nil))) pe_int))
      (pss_cons (ps_set (i := 6) sc_law.nd rfl (Or.inl rfl) (pe_op op_add (pv 5) (pe_call G__law_drawn (hr.mono (by decide)) (by rfl) T.mg__law_drawn T.F__law_drawn.kp (b__law_drawn T) .nil pass0 (pa_cons (pv 1) (pa_cons (pe_ix ix_list (pe_lst (pa_cons pe_int (pa_cons (pe_op op_pow pe_int pe_int) pa_nil))) (pe_call G__law_drawn (hr.mono (by decide)) (by rfl) T.mg__law_drawn T.F__law_drawn.kp (b__law_drawn T) .nil pass0 (pa_cons (pv 1) (pa_cons pe_int pa_nil))) (fun _ _ => rfl)) pa_nil)))))
      (pss_cons (ps_set (i := 7) sc_law.nd rfl (Or.inl rfl) (pe_call G__law_drawn (hr.mono (by decide)) (by rfl) T.mg__law_drawn T.F__law_drawn.kp (b__law_drawn T) .nil pass0 (pa_cons (pv 1) (pa_cons (pe_ix ix_list (pe_lst (pa_cons pe_int (pa_cons (pe_op op_pow pe_int pe_int) pa_nil))) (pe_call G__law_drawn (hr.mono (by decide)) (by rfl) T.mg__law_drawn T.F__law_drawn.kp (b__law_drawn T) .nil pass0 (pa_cons (pv 1) (pa_cons pe_int pa_nil))) (fun _ _ => rfl)) pa_nil))))
      (pss_cons (ps_par (i := 8) (j := 9) (by rfl) sc_law.nd rfl rfl (by decide) rfl rfl (pa_cons (pe_make T.mk_Room G_Room_init (hr.mono (by decide)) (by rfl) T.mg_Room rib rid pass0 (pa_cons (pv 3) (pa_cons (pe_make T.mk_Heater G_Heater_init (hr.mono (by decide)) (by rfl) T.mg_Heater (b_Heater_init T) .nil pass0 (pa_cons (pv 4) (pa_cons (pv 5) (pa_cons (pe_callB (call_min2 rfl) (by rfl) T.z_min (by decide +kernel) (pa_cons (pv 6) (pa_cons (pe_op op_pow pe_int pe_int) pa_nil))) pa_nil)))) (pa_cons (pv 7) pa_nil)))) (pa_cons (pe_call G__law_cents (hr.mono (by decide)) (by rfl) T.mg__law_cents T.F__law_cents.kp (b__law_cents T) .nil pass0 (pa_cons (pv 1) pa_nil)) pa_nil)) (by rfl))
      (pss_cons (ps_par (i := 10) (j := 11) (by rfl) sc_law.nd rfl rfl (by decide) rfl rfl (pa_cons (pe_call G__law_prices (hr.mono (by decide)) (by rfl) T.mg__law_prices T.F__law_prices.kp (b__law_prices T) .nil pass0 (pa_cons (pv 9) pa_nil)) (pa_cons (pe_call G__law_drawn (hr.mono (by decide)) (by rfl) T.mg__law_drawn T.F__law_drawn.kp (b__law_drawn T) .nil pass0 (pa_cons (pv 1) (pa_cons (pe_ix ix_list (pe_lst (pa_cons pe_int (pa_cons (pe_op op_pow pe_int pe_int) pa_nil))) (pe_call G__law_drawn (hr.mono (by decide)) (by rfl) T.mg__law_drawn T.F__law_drawn.kp (b__law_drawn T) .nil pass0 (pa_cons (pv 1) (pa_cons pe_int pa_nil))) (fun _ _ => rfl)) pa_nil))) pa_nil)) (by rfl))
      (pss_cons (ps_if (pt_cmpR op_ne (pe_call G_heating_cost (hr.mono (by decide)) (by rfl) T.mg_heating_cost T.F_heating_cost.kp (b_heating_cost T) .nil pass0 (pa_cons (pv 8) (pa_cons (pe_makeR T.mk_Prices G_Prices_init (hr.mono (by decide)) (by rfl) T.mg_Prices pass0 (pa_cons pe_int pa_nil)) (pa_cons (pv 11) pa_nil)))) (pe_op op_mul pe_int (pe_meth (pv 8) T.cl_Room T.me_Room_heating_ticks G_Room_heating_ticks (hr.mono (by decide)) (b_Room_heating_ticks T) .nil pass0 (pa_cons (pv 11) pa_nil))) (nomark _)) (pss_one (ps_ret pe_bl)) pss_nil)
      (pss_cons (ps_for PassesOwn.never rfl (pi_range2 (by rfl) T.z_range (pa_cons (pv 11) (pa_cons (pe_op op_add (pv 11) pe_int) pa_nil))) (pg_name (i := 12) sc_law.nd rfl (Or.inl rfl))
        (pss_cons (ps_set (i := 13) sc_law.nd rfl (Or.inl rfl) (pe_op op_sub (pe_call G_heating_cost (hr.mono (by decide)) (by rfl) T.mg_heating_cost T.F_heating_cost.kp (b_heating_cost T) .nil pass0 (pa_cons (pv 8) (pa_cons (pv 10) (pa_cons (pe_op op_add (pv 12) pe_int) pa_nil)))) (pe_call G_heating_cost (hr.mono (by decide)) (by rfl) T.mg_heating_cost T.F_heating_cost.kp (b_heating_cost T) .nil pass0 (pa_cons (pv 8) (pa_cons (pv 10) (pa_cons (pv 12) pa_nil))))))
      (pss_one (ps_if (pt_cmpR op_ne (pv 13) (pe_op op_mul (pe_ix ix_list (pv 9) (pe_op op_mod (pv 12) (pe_callB call_len_seq (by rfl) T.z_len PySem.boot_len (pa_cons (pv 9) pa_nil))) (fun _ _ => rfl)) (pe_callTy call_int1 (by rfl) T.z_int (by decide +kernel) (pa_cons (pe_meth (pv 8) T.cl_Room T.me_Room_is_on G_Room_is_on (hr.mono (by decide)) (b_Room_is_on T) .nil pass0 (pa_cons (pv 12) pa_nil)) pa_nil))) (nomark _)) (pss_one (ps_ret pe_bl)) pss_nil))))
      (pss_cons (ps_asg (pe_call G_cost_share (hr.mono (by decide)) (by rfl) T.mg_cost_share T.F_cost_share.kp (b_cost_share T) .nil pass0 (pa_cons (pv 8) (pa_cons (pv 10) pa_nil))) (pg_tup rfl (pgs_cons (pg_name (i := 14) sc_law.nd rfl (Or.inl rfl)) (pgs_cons (pg_name (i := 15) sc_law.nd rfl (Or.inl rfl)) pgs_nil))))
      (pss_cons (ps_if (pt_not (pt_val (pe_call G__law_is_lowest (hr.mono (by decide)) (by rfl) T.mg__law_is_lowest T.F__law_is_lowest.kp (b__law_is_lowest T) .nil pass0 (pa_cons (pv 14) (pa_cons (pv 15) pa_nil))))) (pss_one (ps_ret pe_bl)) pss_nil)
      (pss_cons (ps_if (pt_cmpR op_notN (pe_prop (pv 8) T.cl_Room T.pr_Room_repetition G_Room_repetition (hr.mono (by decide)) (b_Room_repetition T) .nil pass0 rfl) pe_non (nomark _)) (pss_cons (ps_asg (pe_prop (pv 8) T.cl_Room T.pr_Room_repetition G_Room_repetition (hr.mono (by decide)) (b_Room_repetition T) .nil pass0 rfl) (pg_tup rfl (pgs_cons (pg_name (i := 16) sc_law.nd rfl (Or.inl rfl)) (pgs_cons (pg_name (i := 17) sc_law.nd rfl (Or.inl rfl)) pgs_nil))))
      (pss_cons (ps_set (i := 18) sc_law.nd rfl (Or.inl rfl) (pe_op op_mul (pv 17) pe_int))
      (pss_one (ps_if (pt_cmpR op_le (pe_op op_add (pv 16) (pv 18)) (pe_op op_pow pe_int pe_int) (nomark _)) (pss_cons (ps_set (i := 19) sc_law.nd rfl (Or.inl rfl) (pe_op op_sub (pe_call G_heating_cost (hr.mono (by decide)) (by rfl) T.mg_heating_cost T.F_heating_cost.kp (b_heating_cost T) .nil pass0 (pa_cons (pv 8) (pa_cons (pv 10) (pa_cons (pe_op op_add (pv 16) (pv 18)) pa_nil)))) (pe_call G_heating_cost (hr.mono (by decide)) (by rfl) T.mg_heating_cost T.F_heating_cost.kp (b_heating_cost T) .nil pass0 (pa_cons (pv 8) (pa_cons (pv 10) (pa_cons (pv 16) pa_nil))))))
      (pss_one (ps_if (pt_cmpR op_ne (pe_op op_mul (pv 19) (pv 15)) (pe_op op_mul (pv 14) (pv 18)) (nomark _)) (pss_one (ps_ret pe_bl)) pss_nil))) pss_nil)))) pss_nil)
      (pss_cons (ps_set (i := 20) sc_law.nd rfl (Or.inl rfl) (pe_call G_heating_cost (hr.mono (by decide)) (by rfl) T.mg_heating_cost T.F_heating_cost.kp (b_heating_cost T) .nil pass0 (pa_cons (pv 8) (pa_cons (pv 10) (pa_cons (pv 11) pa_nil)))))
      (pss_cons (ps_set (i := 21) sc_law.nd rfl (Or.inl rfl) (pe_call G_first_over (hr.mono (by decide)) (by rfl) T.mg_first_over T.F_first_over.kp (b_first_over T) .nil pass0 (pa_cons (pv 8) (pa_cons (pv 10) (pa_cons (pv 20) pa_nil)))))
      (pss_cons (ps_if (PW.pt (pw_and (pt_cmpR op_notN (pv 21) pe_non (nomark _)) (pw_and1 (PW.pt (pw_or (pt_cmpR op_le (pv 21) (pv 11) (nomark _)) (pw_or1 (pt_cmpR op_le (pe_call G_heating_cost (hr.mono (by decide)) (by rfl) T.mg_heating_cost T.F_heating_cost.kp (b_heating_cost T) .nil pass0 (pa_cons (pv 8) (pa_cons (pv 10) (pa_cons (pv 21) pa_nil)))) (pv 20) (nomark _)))))))) (pss_one (ps_ret pe_bl)) pss_nil)
      (pss_cons (ps_if (PW.pt (pw_and (pt_cmpR op_notN (pv 21) pe_non (nomark _)) (pw_and1 (pt_cmpR op_gt (pe_call G_heating_cost (hr.mono (by decide)) (by rfl) T.mg_heating_cost T.F_heating_cost.kp (b_heating_cost T) .nil pass0 (pa_cons (pv 8) (pa_cons (pv 10) (pa_cons (pe_op op_sub (pv 21) pe_int) pa_nil)))) (pv 20) (nomark _))))) (pss_one (ps_ret pe_bl)) pss_nil)
      (pss_one (ps_if (PW.pt (pw_and (pt_cmpR op_isN (pv 21) pe_non (nomark _)) (pw_and1 (pt_cmpR op_gt (pe_call G_heating_cost (hr.mono (by decide)) (by rfl) T.mg_heating_cost T.F_heating_cost.kp (b_heating_cost T) .nil pass0 (pa_cons (pv 8) (pa_cons (pv 10) (pa_cons (pe_op op_pow pe_int pe_int) pa_nil)))) (pv 20) (nomark _))))) (pss_one (ps_ret pe_bl)) pss_nil))))))))))))))))))
      (pss_one (ps_ret pe_bl)))), ?_⟩
    refine ⟨_, rfl, c, ns, rfl, hS, hl, fun x H1 ls1 s1 nx => ?_⟩
    refine ⟨3, rfl, by decide, by decide, ?_⟩
    refine for_range (lo := 0) (n := 3) (fun i σ H' => ∃ vs : List (Option V), σ = some (.ref c) :: some (.ref x) :: vs ∧ vs.length = 20 ∧ LS K H' x c) ⟨List.replicate 20 none, rfl, rfl, ls1⟩ ?_ ?_
    · rintro i σ H2 hi ⟨vs, rfl, lvs, ls2⟩
      match vs, lvs with
      | [v2, v3, v4, v5, v6, v7, v8, v9, v10, v11, v12, v13, v14, v15, v16, v17, v18, v19, v20, v21], _ =>
      clear lvs
      show tSeq (tPar 3 4 _) _ _ _ _
      refine seq_par (C := fun v w H' => ∃ (ww : Addr) (ch : List Int) (g : Int), v = .ref ww ∧ w = .int g ∧ CH ch ∧ 1 ≤ g ∧ g ≤ 200 ∧ WAt a H' ww ch ∧ LS K H' x c) (fun Q7 hQ => ?_) ?_
      · refine ⟨_, rfl, x, c, 5, rfl, ls2, by decide, by decide, fun L1 ch H3 cch c5 h1 n1 n1x ls3 k3 => ?_⟩
        refine ⟨L1, ch, rfl, h1, cch, c5, fun ww H4 s4 w4 => ?_⟩
        refine drawn_of 9 200 rfl (ls3.same s4) (by decide) (by decide) (fun Q8 hQ8 => ⟨by show 2 ≤ sizeLine; decide, fun L nL => hQ8 L _ nL rfl⟩) fun r H5 r0 r1 ls5 k5 => ?_
        exact ⟨_, _, rfl, rfl, hQ _ _ _ ⟨ww, ch, 1 + r, rfl, rfl, cch, by omega, by omega, w4.kp (ls3.same s4) k5, ls5⟩⟩
      rintro v w H3 ⟨ww, ch, g, rfl, rfl, cch, g1, g2, w3, ls3⟩
      clear ls2
      try dsimp only [List.set_cons_succ, List.set_cons_zero]
      refine seq_asg (C := fun v H' => ∃ lo : Int, v = .int lo ∧ -15 ≤ lo ∧ lo ≤ 999999999984 ∧ WAt a H' ww ch ∧ LS K H' x c) (fun Q7 hQ => ?_) ?_
      · exact drawn_of 30 (10 ^ (12 : Int).toNat) rfl ls3 (by decide) (by decide) (fun Q8 hQ8 => ⟨_, _, rfl, rfl, ⟨by decide, by decide, by decide⟩, by show 2 ≤ sizeLine; decide, fun L nL => hQ8 L _ nL rfl⟩) fun r H4 r0 r1 ls4 k4 => ⟨_, _, rfl, rfl, hQ _ _ ⟨r - 15, rfl, by omega, by rw [pow12] at r1; omega, w3.kp ls3 k4, ls4⟩⟩
      rintro v H4 ⟨lo, rfl, lo1, lo2, w4, ls4⟩
      clear ls3 w3
      try dsimp only [List.set_cons_succ, List.set_cons_zero]
      refine g_asg (C := fun v H' => ∃ hi : Int, v = .int hi ∧ lo ≤ hi ∧ WAt a H' ww ch ∧ LS K H' x c) (fun Q7 hQ => ?_) ?_
      · try dsimp only [List.set_cons_succ, List.set_cons_zero]
        exact ⟨_, rfl, drawn_of 20 (10 ^ (6 : Int).toNat) rfl ls4 (by decide) (by decide) (fun Q8 hQ8 => ⟨_, _, rfl, rfl, ⟨by decide, by decide, by decide⟩, by show 2 ≤ sizeLine; decide, fun L nL => hQ8 L _ nL rfl⟩) fun r H5 r0 r1 ls5 k5 => ⟨_, _, rfl, rfl, hQ _ _ ⟨lo + r, rfl, by omega, w4.kp ls4 k5, ls5⟩⟩⟩
      rintro v H5 ⟨hi', rfl, hi1, w5, ls5⟩
      clear ls4 w4
      try dsimp only [List.set_cons_succ, List.set_cons_zero]
      refine g_asg (C := fun v H' => ∃ st : Int, v = .int st ∧ 0 ≤ st ∧ st ≤ 1000000000000 ∧ WAt a H' ww ch ∧ LS K H' x c) (fun Q7 hQ => ?_) ?_
      · try dsimp only [List.set_cons_succ, List.set_cons_zero]
        exact drawn_of 60 (10 ^ (12 : Int).toNat) rfl ls5 (by decide) (by decide) (fun Q8 hQ8 => ⟨_, _, rfl, rfl, ⟨by decide, by decide, by decide⟩, by show 2 ≤ sizeLine; decide, fun L nL => hQ8 L _ nL rfl⟩) fun r H6 r0 r1 ls6 k6 => hQ _ _ ⟨r, rfl, r0, by rw [pow12] at r1; omega, w5.kp ls5 k6, ls6⟩
      rintro v H6 ⟨st, rfl, st1, st2, w6, ls6⟩
      clear ls5 w5
      try dsimp only [List.set_cons_succ, List.set_cons_zero]
      refine g_seq ?_
      obtain ⟨p, rfl, rfl, rfl, e4, e5, e6⟩ : ∃ p : Th.Par, p.ch = ch ∧ p.g = g ∧ p.lo = lo ∧ p.hi = (if (1000000000000 : Int) < hi' then 1000000000000 else hi') ∧ p.st = st ∧ p.on0 = false := ⟨⟨ch, g, lo, _, st, false⟩, rfl, rfl, rfl, rfl, rfl, rfl⟩
      have pok : p.Ok := ⟨cch.1, cch.2.1, cch.2.2, g1, g2, by rw [e4]; split <;> omega, by omega, by rw [e4]; split <;> omega, by omega, by omega⟩
      subst e5
      show tPar 8 9 _ _ [some (.ref c), some (.ref x), some (.int (0 + (i : Int))), some (.ref ww), some (.int p.g), some (.int p.lo), some (.int hi'), some (.int p.st), v8, v9, v10, v11, v12, v13, v14, v15, v16, v17, v18, v19, v20, v21] H6
      refine ⟨_, rfl, _, rfl, _, rfl, _, rfl, _, _, rfl, rfl, ⟨by decide, by decide, by decide⟩, _, _, rfl, fun hh dh nh nd _ => ?_⟩
      rw [pow12, ← e4]
      refine ⟨hh, dh, p.g, p.lo, p.hi, rfl, upd_same, pok.g1, pok.g200, pok.lohi, pok.lob, pok.hib, fun H7 fr7 ha7 => ⟨rfl, _, rfl, fun z dz nz ndz _ => ?_⟩⟩
      have s7 := Fr1.made nh nd fr7
      refine room_inF (ls6.same s7) nz ndz (w6.same s7) ha7 pok e6 fun H8 s8 ra8 => ⟨rfl, ?_⟩
      have ls8 := (ls6.same s7).same s8
      refine ⟨_, rfl, x, c, rfl, ls8, fun Lc cs H9 cp c4 hc9 nc ncx ls9 k9 => ⟨_, _, rfl, ?_⟩⟩
      have ra9 : RAt a (cut H9 [x]) z p := ra8.same (cut_kp (List.mem_singleton.mpr rfl) k9)
      clear ls8 ra8 k9 ls6 w6 s7 s8 ha7
      try dsimp only [List.set_cons_succ, List.set_cons_zero]
      refine seq_par (C := fun v w H' => ∃ (q : Addr) (n : Nat), v = .ref q ∧ w = .int n ∧ n < 100000000000000000 ∧ PAt a H' q cs ∧ RAt a (cut H' [x]) z p ∧ H' Lc = some (.lst (cs.map V.int)) ∧ LS K H' x c) (fun Q7 hQ => ?_) ?_
      · refine ⟨_, rfl, Lc, cs, rfl, hc9, cp, c4, fun q H10 s10 pq => ?_⟩
        refine drawn_of 500 (10 ^ (17 : Int).toNat) rfl (ls9.same s10) (by decide) (by decide) (fun Q8 hQ8 => ⟨_, _, rfl, rfl, ⟨by decide, by decide, by decide⟩, by show 2 ≤ sizeLine; decide, fun L nL => hQ8 L _ nL rfl⟩) fun r H11 r0 r1 ls11 k11 => ?_
        have r1 : r < 500 ∨ r < 100000000000000000 := r1
        obtain ⟨n, rfl⟩ : ∃ n : Nat, r = n := ⟨r.toNat, by omega⟩
        exact hQ _ _ _ ⟨q, n, rfl, rfl, by omega, pq.kp (ls9.same s10) k11, (ra9.same (cut_to s10)).same (cut_kp (List.mem_singleton.mpr rfl) k11), k11 _ _ ncx (s10 _ _ hc9), ls11⟩
      rintro v w H10 ⟨q, n, rfl, rfl, n17, pq, ra, hc, ls10⟩
      clear ls9 ra9 hc9 nc
      have ra : RAt a H10 z p := ra.same cut_same
      have pp := cp.prs
      try dsimp only [List.set_cons_succ, List.set_cons_zero]
      obtain ⟨dz', zw, zh, zc, zu, zbs, zback, hz, _⟩ := id ra
      refine seq_if (C := fun σ' H' => σ' = [some (.ref c), some (.ref x), some (.int (0 + (i : Int))), some (.ref ww), some (.int p.g), some (.int p.lo), some (.int hi'), some (.int p.st), some (.ref z), some (.ref Lc), some (.ref q), some (.int n), v12, v13, v14, v15, v16, v17, v18, v19, v20, v21] ∧ Same H10 H') (fun D' hD' => ?_) ?_
      · refine ⟨_, rfl, fun y dy ny nyd ney => prices_in (cs := [7]) ⟨by decide, by decide, fun c hc => by obtain rfl := List.mem_singleton.mp hc; decide⟩ ny nyd ney fun H11 s11 p7 => ⟨rfl, _, rfl, z, y, p, [7], n, rfl, ra.same s11, p7, ⟨by decide, by decide, fun c hc => by obtain rfl := List.mem_singleton.mp hc; decide⟩, by omega, fun H12 s12 => ?_⟩⟩
        have s12 := s11.trans s12
        refine ⟨_, rfl, z, dz', _, rfl, s12 _ _ hz, rfl, _, rfl, z, p, n, rfl, ra.same s12, by omega, fun H13 s13 => ⟨_, _, rfl, rfl, .inl ⟨by decide, by decide⟩, rfl, _, rfl, ifF (ndF (congrArg V.int (Th.Ac_seven p n))) ?_⟩⟩
        exact tnext (hD' _ _ ⟨rfl, s12.trans s13⟩)
      rintro σ H11 ⟨rfl, s11⟩
      have n1 : (cs.map V.int).length = cs.length := List.length_map _
      have c1 := cp.1
      refine ⟨_, rfl, _, rfl, _, _, rfl, rfl, ?_⟩
      refine ⟨(n : Int), (n : Int) + 12, rfl, ⟨by omega, by omega, by omega, by omega⟩, ?_⟩
      refine for_range (lo := (n : Int)) (n := ((n : Int) + 12 - (n : Int)).toNat) (fun j σ H' => (∃ u12 u13 : Option V, σ = [some (.ref c), some (.ref x), some (.int (0 + (i : Int))), some (.ref ww), some (.int p.g), some (.int p.lo), some (.int hi'), some (.int p.st), some (.ref z), some (.ref Lc), some (.ref q), some (.int n), u12, u13, v14, v15, v16, v17, v18, v19, v20, v21]) ∧ Same H10 H') ⟨⟨_, _, rfl⟩, s11⟩ ?_ ?_
      · rintro j σ H12 hj ⟨⟨u12, u13, rfl⟩, s12⟩
        have hj : j < 12 := by omega
        have ej : (n : Int) + (j : Int) = ((n + j : Nat) : Int) := by omega
        have ej1 : (n : Int) + (j : Int) + 1 = ((n + j + 1 : Nat) : Int) := by omega
        refine ⟨_, rfl, _, rfl, _, rfl, _, _, rfl, rfl, z, q, p, cs, n + j + 1, congrArg (fun u => [V.ref z, V.ref q, V.int u]) ej1, ra.same s12, pq.same s12, cp, by omega, fun H13 s13 => ?_⟩
        have s13 := s12.trans s13
        refine ⟨_, rfl, _, rfl, _, rfl, z, q, p, cs, n + j, congrArg (fun u => [V.ref z, V.ref q, V.int u]) ej, ra.same s13, pq.same s13, cp, by omega, fun H14 s14 => ⟨_, _, rfl, rfl, ?_⟩⟩
        have s14 := s13.trans s14
        refine ⟨_, rfl, _, rfl, _, rfl, _, rfl, Lc, _, rfl, .inl (SqL.of (s14 _ _ hc)), _, _, rfl, rfl, by rw [n1]; omega, Lc, _, _, _, rfl, rfl, SqL.of (s14 _ _ hc), by rw [ej]; exact at_mod2 cs (n + j) c1, ?_⟩
        refine ⟨_, rfl, z, dz', _, rfl, s14 _ _ hz, rfl, _, rfl, z, p, n + j, congrArg (fun u => [V.ref z, V.int u]) ej, ra.same s14, by omega, fun H15 s15 => ?_⟩
        have cb := pp.at (n + j)
        refine .inr ⟨_, rfl, _, _, rfl, rfl, .inl ⟨by omega, by omega⟩, rfl, _, rfl, ifF (ndF (congrArg V.int ?_)) ?_⟩
        · show Th.Ac p cs (n + j) + (if Th.onn p (n + j) = true then Th.chAt cs (n + j) else 0) - Th.Ac p cs (n + j) = _
          split <;> simp <;> omega
        · exact ⟨⟨_, _, rfl⟩, s14.trans s15⟩
      rintro σ H12 ⟨⟨u12, u13, rfl⟩, s12⟩
      clear s11
      dsimp only
      refine seq_asg (C := fun v H' => ∃ (y : Addr) (t b : Nat) (bs' : List Nat) (back : Option Nat), v = .ref y ∧ H' y = some (.tup [.int t, .int b]) ∧ Th.CourseX p bs' back ∧ DvX cs bs' back ∧ Th.ShareX p cs bs' back t b ∧ Same H10 H') (fun Q7 hQ => ?_) ?_
      · exact ⟨_, rfl, _, rfl, z, q, p, cs, rfl, ra.same s12, pq.same s12, cp, fun y H13 bs' back t b s13 ny hy cx dv sh => hQ _ _ ⟨y, t, b, bs', back, rfl, hy, cx, dv, sh, s12.trans s13⟩⟩
      rintro v H13 ⟨y, t, b, bs', back, rfl, hy, cx, dv, sh, s13⟩
      clear s12
      obtain ⟨b1, g1'⟩ := sh.ok pp cx
      refine ⟨y, _, rfl, SqT.of hy, rfl, _, _, rfl, _, _, rfl, rfl, ?_⟩
      try dsimp only [List.set_cons_succ, List.set_cons_zero]
      refine seq_if (C := fun σ' H' => σ' = [some (.ref c), some (.ref x), some (.int (0 + (i : Int))), some (.ref ww), some (.int p.g), some (.int p.lo), some (.int hi'), some (.int p.st), some (.ref z), some (.ref Lc), some (.ref q), some (.int n), u12, u13, some (.int t), some (.int b), v16, v17, v18, v19, v20, v21] ∧ Same H10 H') (fun D' hD' => ?_) ?_
      · refine ⟨_, rfl, _, rfl, t, b, rfl, b1, g1', fun H14 s14 => ⟨_, rfl, ifF rfl ?_⟩⟩
        exact tnext (hD' _ _ ⟨rfl, s13.trans s14⟩)
      rintro σ H14 ⟨rfl, s14⟩
      clear s13 hy
      refine seq_if (C := fun σ' H' => (∃ u16 u17 u18 u19 : Option V, σ' = [some (.ref c), some (.ref x), some (.int (0 + (i : Int))), some (.ref ww), some (.int p.g), some (.int p.lo), some (.int hi'), some (.int p.st), some (.ref z), some (.ref Lc), some (.ref q), some (.int n), u12, u13, some (.int t), some (.int b), u16, u17, u18, u19, v20, v21]) ∧ Same H10 H') (fun D' hD' => ?_) ?_
      · refine tif_one ?_
        refine ⟨_, rfl, z, dz', _, rfl, s14 _ _ hz, z, p, rfl, ra.same s14, fun v H15 r s15 rv ir rb => ⟨rfl, _, rfl, ?_⟩⟩
        have s15 := s14.trans s15
        rcases rv with ⟨rfl, rfl⟩ | ⟨zr, f1, t1, rfl, rfl, hzr⟩
        · exact ifF rfl (tnext (hD' _ _ ⟨⟨_, _, _, _, rfl⟩, s15⟩))
        · obtain ⟨per, T1, fT⟩ := rb f1 t1 rfl
          refine ifT rfl ?_
          refine ⟨_, rfl, z, dz', _, rfl, s15 _ _ hz, z, p, rfl, ra.same s15, fun v2 H16 r2 s16 rv2 ir2 rb2 => ?_⟩
          have s16 := s15.trans s16
          have er := ir2.uniq ir
          subst er
          rcases rv2 with ⟨e, _⟩ | ⟨z2, F2, S2, e, rfl, hz2⟩
          · cases e
          cases e
          refine ⟨z2, _, rfl, SqT.of hz2, rfl, _, _, rfl, _, _, rfl, rfl, ?_⟩
          try dsimp only [List.set_cons_succ, List.set_cons_zero]
          refine ⟨_, rfl, _, _, rfl, rfl, .inl ⟨by omega, by omega⟩, ?_⟩
          refine ⟨_, rfl, _, rfl, _, _, rfl, rfl, _, _, rfl, rfl, ⟨by decide, by decide, by decide⟩, _, _, rfl, rfl, _, rfl, ?_⟩
          have p17 : (10 : Int) ^ (17 : Int).toNat = 100000000000000000 := by decide
          by_cases g : (f1 : Int) + (t1 : Int) * 12 ≤ 10 ^ (17 : Int).toNat
          · refine ifT (dT g) ?_
            rw [p17] at g
            have ew : (f1 : Int) + (t1 : Int) * 12 = ((f1 + 12 * t1 : Nat) : Int) := by omega
            refine ⟨_, rfl, _, rfl, _, rfl, _, rfl, _, _, rfl, rfl, z, q, p, cs, f1 + 12 * t1, congrArg (fun u => [V.ref z, V.ref q, V.int u]) ew, ra.same s16, pq.same s16, cp, by omega, fun H17 s17 => ?_⟩
            have s17 := s16.trans s17
            refine ⟨_, rfl, _, rfl, _, rfl, z, q, p, cs, f1, rfl, ra.same s17, pq.same s17, cp, by omega, fun H18 s18 => ⟨_, _, rfl, rfl, ?_⟩⟩
            have s18 := s17.trans s18
            have gr := sh.grow pp cx dv (per.twelve 12) (Th.dvd12 c1 c4 t1) (by omega)
            have ble := sh.le pp cx
            refine ⟨_, rfl, _, rfl, _, _, rfl, rfl, .inr ⟨by omega, by omega⟩, _, rfl, _, rfl, _, _, rfl, rfl, .inr ⟨by omega, by omega⟩, rfl, _, rfl, ifF (ndF (congrArg V.int ?_)) ?_⟩
            · rw [gr]
              congr 1
              omega
            · exact tnext (hD' _ _ ⟨⟨_, _, _, _, rfl⟩, s18⟩)
          · refine ifF (dF g) ?_
            exact tnext (hD' _ _ ⟨⟨_, _, _, _, rfl⟩, s16⟩)
      rintro σ H15 ⟨⟨u16, u17, u18, u19, rfl⟩, s15⟩
      clear s14
      refine seq_asg (C := fun v H' => v = .int (Th.Ac p cs n) ∧ Same H10 H') (fun Q7 hQ => ?_) ?_
      · exact ⟨_, rfl, _, rfl, _, rfl, z, q, p, cs, n, rfl, ra.same s15, pq.same s15, cp, by omega, fun H16 s16 => hQ _ _ ⟨rfl, s15.trans s16⟩⟩
      rintro v H16 ⟨rfl, s16⟩
      clear s15
      have bd := Th.Ac_bd (p := p) pp n
      try dsimp only [List.set_cons_succ, List.set_cons_zero]
      refine g_asg (C := fun v H' => ∃ r : Option Nat, v = optV r ∧ FOv p cs (Th.Ac p cs n) r ∧ Same H10 H') (fun Q7 hQ => ?_) ?_
      · try dsimp only [List.set_cons_succ, List.set_cons_zero]
        exact ⟨_, rfl, _, rfl, _, rfl, z, q, p, cs, _, rfl, ra.same s16, pq.same s16, cp, bd.1, by omega, fun r H17 s17 fo => hQ _ _ ⟨r, rfl, fo, s16.trans s17⟩⟩
      rintro v H17 ⟨r, rfl, fo, s17⟩
      clear s16
      try dsimp only [List.set_cons_succ, List.set_cons_zero]
      refine g_if (C := fun σ' H' => σ' = [some (.ref c), some (.ref x), some (.int (0 + (i : Int))), some (.ref ww), some (.int p.g), some (.int p.lo), some (.int hi'), some (.int p.st), some (.ref z), some (.ref Lc), some (.ref q), some (.int n), u12, u13, some (.int t), some (.int b), u16, u17, u18, u19, some (.int (Th.Ac p cs n)), some (optV r)] ∧ Same H10 H') (fun D' hD' => ?_) ?_
      · try dsimp only [List.set_cons_succ, List.set_cons_zero]
        refine tif_one (and_step ?_)
        cases r with
        | none =>
          refine ⟨_, rfl, rfl, _, rfl, ifF rfl (ifF rfl ?_)⟩
          exact tnext (hD' _ _ ⟨rfl, s17⟩)
        | some m =>
          obtain ⟨m1, m18, h1, h2⟩ := fo
          have nm : n < m := by
            rcases Nat.lt_or_ge n m with l | g
            · exact l
            · have := Th.Ac_le (p := p) pp g; omega
          refine ⟨_, rfl, rfl, _, rfl, ifT rfl ?_⟩
          refine or_step ?_
          refine ⟨_, rfl, _, rfl, _, _, rfl, rfl, _, rfl, ifF (dF (by omega)) ?_⟩
          refine ⟨_, rfl, _, rfl, _, rfl, z, q, p, cs, m, rfl, ra.same s17, pq.same s17, cp, m18, fun H18 s18 => ⟨_, rfl, _, _, rfl, rfl, _, rfl, ifF (dF (by omega)) ?_⟩⟩
          exact tnext (hD' _ _ ⟨rfl, s17.trans s18⟩)
      rintro σ H18 ⟨rfl, s18⟩
      clear s17
      refine seq_if (C := fun σ' H' => σ' = [some (.ref c), some (.ref x), some (.int (0 + (i : Int))), some (.ref ww), some (.int p.g), some (.int p.lo), some (.int hi'), some (.int p.st), some (.ref z), some (.ref Lc), some (.ref q), some (.int n), u12, u13, some (.int t), some (.int b), u16, u17, u18, u19, some (.int (Th.Ac p cs n)), some (optV r)] ∧ Same H10 H') (fun D' hD' => ?_) ?_
      · refine tif_one (and_step ?_)
        cases r with
        | none =>
          refine ⟨_, rfl, rfl, _, rfl, ifF rfl (ifF rfl ?_)⟩
          exact tnext (hD' _ _ ⟨rfl, s18⟩)
        | some m =>
          obtain ⟨m1, m18, h1, h2⟩ := fo
          refine ⟨_, rfl, rfl, _, rfl, ifT rfl ?_⟩
          have em : (m : Int) - 1 = ((m - 1 : Nat) : Int) := by omega
          refine ⟨_, rfl, _, rfl, _, rfl, _, _, rfl, rfl, z, q, p, cs, m - 1, congrArg (fun u => [V.ref z, V.ref q, V.int u]) em, ra.same s18, pq.same s18, cp, by omega, fun H19 s19 => ⟨_, rfl, _, _, rfl, rfl, _, rfl, ifF (dF (by omega)) ?_⟩⟩
          exact tnext (hD' _ _ ⟨rfl, s18.trans s19⟩)
      rintro σ H19 ⟨rfl, s19⟩
      clear s18
      refine tif_one (and_step ?_)
      cases r with
      | none =>
        refine ⟨_, rfl, rfl, _, rfl, ifT rfl ?_⟩
        obtain ⟨N, hN⟩ : ∃ N : Nat, N = 1000000000000000000 := ⟨_, rfl⟩
        have fo : Th.Ac p cs N ≤ Th.Ac p cs n := by rw [hN]; exact fo
        refine ⟨_, rfl, _, rfl, _, _, rfl, rfl, ⟨by decide, by decide, by decide⟩, z, q, p, cs, N, congrArg (fun u => [V.ref z, V.ref q, V.int u]) (by rw [pow18, hN]; rfl), ra.same s19, pq.same s19, cp, by omega, fun H20 s20 => ⟨_, rfl, _, _, rfl, rfl, _, rfl, ifF (dF (by omega)) ?_⟩⟩
        exact tnext ⟨_, rfl, rfl, ls10.same (s19.trans s20)⟩
      | some m =>
        refine ⟨_, rfl, rfl, _, rfl, ifF rfl (ifF rfl ?_)⟩
        exact tnext ⟨_, rfl, rfl, ls10.same s19⟩
    · rintro σ H3 ⟨vs, rfl, lvs, ls3⟩
      exact k _
end
end W6

namespace W6
open PySem PySem.Spec PyProof.Rows L2 Ru StX LamX
theorem isS_ok {α : Type} : ∀ {o : Option α}, isS o = true → ∃ x, o = some x
  | some x, _ => ⟨x, rfl⟩
  | none, h => by cases h
def erA2 (K : PySem.W.Frag) : Er2 := ⟨He.ga K "InvalidNumber"⟩
theorem ep_of {K : PySem.W.Frag} {h : Heap} {mg : Str → Option Value} {nm : Str} (X : K.In h) (G : h.Ns mainGlobals mg) (b : (epL K nm).all id = true) : Ep K mg nm (He.ga K nm) := by
  have at_ : ∀ (i : Nat) (c : Bool), (epL K nm)[i]? = some c → c = true := fun i c e => List.all_eq_true.mp b c (List.mem_of_getElem? e)
  exact ⟨PySem.W.mg_of X G (He.eqO_ok (at_ 0 _ rfl)), Hq2.excB_ok (at_ 1 _ rfl), at_ 2 _ rfl, at_ 3 _ rfl, of_decide_eq_true (at_ 4 _ rfl), of_decide_eq_true (at_ 5 _ rfl)⟩
theorem xm_of {K : PySem.W.Frag} {x y : Str} {c : Bool} (b : xmB K x y c = true) : PySem.W.exmOne K (.ref (He.ga K x)) (.ref (He.ga K y)) = some c := of_decide_eq_true b
theorem wM_of {K : PySem.W.Frag} {a : Ad} (e : a.c_Weather = He.ga K "Weather") (g : a.f_Weather_mul = He.ma K (He.ga K "Weather") "__mul__") (b : (wmL K).all id = true) : WMu K a := by
  have at_ : ∀ (i : Nat) (c : Bool), (wmL K)[i]? = some c → c = true := fun i c e => List.all_eq_true.mp b c (List.mem_of_getElem? e)
  exact { hm := by rw [e]; exact at_ 0 _ rfl
          mul := by rw [e, g]; exact ⟨at_ 1 _ rfl, He.eqO_ok (at_ 2 _ rfl), at_ 3 _ rfl, He.eqO_ok (at_ 4 _ rfl), isS_ok (at_ 5 _ rfl), isS_ok (at_ 6 _ rfl), of_decide_eq_true (at_ 7 _ rfl)⟩ }
end W6

namespace W6
open PySem PySem.Spec PyProof.Rows L2 Ru StX
theorem h_ns_Weather {h : Heap} {K : PySem.W.Frag} (c : Hq2.Says hS h K) : PySem.W.nsIn K mainGlobals "Weather" = some (some (.ref (He.ga K "Weather"))) := He.eqO_ok (c.fact 0 rfl)
theorem h_pg_Weather {h : Heap} {K : PySem.W.Frag} (c : Hq2.Says hS h K) : PySem.W.plainGet K (He.ga K "Weather") Str.empty = true := id (c.fact 1 rfl)
theorem h_hd_Weather {h : Heap} {K : PySem.W.Frag} (c : Hq2.Says hS h K) : PySem.W.hasDictIn K (He.ga K "Weather") = true := id (c.fact 2 rfl)
theorem h_po_Weather {h : Heap} {K : PySem.W.Frag} (c : Hq2.Says hS h K) : PySem.W.plainOver K (He.ga K "Weather") = true := id (c.fact 3 rfl)
theorem h_sa_Weather {h : Heap} {K : PySem.W.Frag} (c : Hq2.Says hS h K) : PySem.W.findIn K (.ref (He.ga K "Weather")) "__setattr__" = some (some (.builtin "object.__setattr__")) := He.eqO_ok (c.fact 4 rfl)
theorem h_na_Weather__changes {h : Heap} {K : PySem.W.Frag} (c : Hq2.Says hS h K) : PySem.W.findIn K (.ref (He.ga K "Weather")) "_changes" = some none := He.eqO_ok (c.fact 5 rfl)
theorem h_ns_Prices {h : Heap} {K : PySem.W.Frag} (c : Hq2.Says hS h K) : PySem.W.nsIn K mainGlobals "Prices" = some (some (.ref (He.ga K "Prices"))) := He.eqO_ok (c.fact 6 rfl)
theorem h_pg_Prices {h : Heap} {K : PySem.W.Frag} (c : Hq2.Says hS h K) : PySem.W.plainGet K (He.ga K "Prices") Str.empty = true := id (c.fact 7 rfl)
theorem h_hd_Prices {h : Heap} {K : PySem.W.Frag} (c : Hq2.Says hS h K) : PySem.W.hasDictIn K (He.ga K "Prices") = true := id (c.fact 8 rfl)
theorem h_po_Prices {h : Heap} {K : PySem.W.Frag} (c : Hq2.Says hS h K) : PySem.W.plainOver K (He.ga K "Prices") = true := id (c.fact 9 rfl)
theorem h_sa_Prices {h : Heap} {K : PySem.W.Frag} (c : Hq2.Says hS h K) : PySem.W.findIn K (.ref (He.ga K "Prices")) "__setattr__" = some (some (.builtin "object.__setattr__")) := He.eqO_ok (c.fact 10 rfl)
theorem h_na_Prices__cents {h : Heap} {K : PySem.W.Frag} (c : Hq2.Says hS h K) : PySem.W.findIn K (.ref (He.ga K "Prices")) "_cents" = some none := He.eqO_ok (c.fact 11 rfl)
theorem h_ns_Timeline {h : Heap} {K : PySem.W.Frag} (c : Hq2.Says hS h K) : PySem.W.nsIn K mainGlobals "Timeline" = some (some (.ref (He.ga K "Timeline"))) := He.eqO_ok (c.fact 12 rfl)
theorem h_pg_Timeline {h : Heap} {K : PySem.W.Frag} (c : Hq2.Says hS h K) : PySem.W.plainGet K (He.ga K "Timeline") Str.empty = true := id (c.fact 13 rfl)
theorem h_hd_Timeline {h : Heap} {K : PySem.W.Frag} (c : Hq2.Says hS h K) : PySem.W.hasDictIn K (He.ga K "Timeline") = true := id (c.fact 14 rfl)
theorem h_po_Timeline {h : Heap} {K : PySem.W.Frag} (c : Hq2.Says hS h K) : PySem.W.plainOver K (He.ga K "Timeline") = true := id (c.fact 15 rfl)
theorem h_sa_Timeline {h : Heap} {K : PySem.W.Frag} (c : Hq2.Says hS h K) : PySem.W.findIn K (.ref (He.ga K "Timeline")) "__setattr__" = some (some (.builtin "object.__setattr__")) := He.eqO_ok (c.fact 16 rfl)
theorem h_na_Timeline_back {h : Heap} {K : PySem.W.Frag} (c : Hq2.Says hS h K) : PySem.W.findIn K (.ref (He.ga K "Timeline")) "back" = some none := He.eqO_ok (c.fact 17 rfl)
theorem h_na_Timeline_last {h : Heap} {K : PySem.W.Frag} (c : Hq2.Says hS h K) : PySem.W.findIn K (.ref (He.ga K "Timeline")) "last" = some none := He.eqO_ok (c.fact 18 rfl)
theorem h_na_Timeline__begins {h : Heap} {K : PySem.W.Frag} (c : Hq2.Says hS h K) : PySem.W.findIn K (.ref (He.ga K "Timeline")) "_begins" = some none := He.eqO_ok (c.fact 19 rfl)
theorem h_ns_HeatingSum {h : Heap} {K : PySem.W.Frag} (c : Hq2.Says hS h K) : PySem.W.nsIn K mainGlobals "HeatingSum" = some (some (.ref (He.ga K "HeatingSum"))) := He.eqO_ok (c.fact 20 rfl)
theorem h_pg_HeatingSum {h : Heap} {K : PySem.W.Frag} (c : Hq2.Says hS h K) : PySem.W.plainGet K (He.ga K "HeatingSum") Str.empty = true := id (c.fact 21 rfl)
theorem h_hd_HeatingSum {h : Heap} {K : PySem.W.Frag} (c : Hq2.Says hS h K) : PySem.W.hasDictIn K (He.ga K "HeatingSum") = true := id (c.fact 22 rfl)
theorem h_po_HeatingSum {h : Heap} {K : PySem.W.Frag} (c : Hq2.Says hS h K) : PySem.W.plainOver K (He.ga K "HeatingSum") = true := id (c.fact 23 rfl)
theorem h_sa_HeatingSum {h : Heap} {K : PySem.W.Frag} (c : Hq2.Says hS h K) : PySem.W.findIn K (.ref (He.ga K "HeatingSum")) "__setattr__" = some (some (.builtin "object.__setattr__")) := He.eqO_ok (c.fact 24 rfl)
theorem h_na_HeatingSum__on {h : Heap} {K : PySem.W.Frag} (c : Hq2.Says hS h K) : PySem.W.findIn K (.ref (He.ga K "HeatingSum")) "_on" = some none := He.eqO_ok (c.fact 25 rfl)
theorem h_na_HeatingSum__amounts {h : Heap} {K : PySem.W.Frag} (c : Hq2.Says hS h K) : PySem.W.findIn K (.ref (He.ga K "HeatingSum")) "_amounts" = some none := He.eqO_ok (c.fact 26 rfl)
theorem h_na_HeatingSum__timeline {h : Heap} {K : PySem.W.Frag} (c : Hq2.Says hS h K) : PySem.W.findIn K (.ref (He.ga K "HeatingSum")) "_timeline" = some none := He.eqO_ok (c.fact 27 rfl)
theorem h_na_HeatingSum__sums {h : Heap} {K : PySem.W.Frag} (c : Hq2.Says hS h K) : PySem.W.findIn K (.ref (He.ga K "HeatingSum")) "_sums" = some none := He.eqO_ok (c.fact 28 rfl)
theorem h_ns_Drift {h : Heap} {K : PySem.W.Frag} (c : Hq2.Says hS h K) : PySem.W.nsIn K mainGlobals "Drift" = some (some (.ref (He.ga K "Drift"))) := He.eqO_ok (c.fact 29 rfl)
theorem h_pg_Drift {h : Heap} {K : PySem.W.Frag} (c : Hq2.Says hS h K) : PySem.W.plainGet K (He.ga K "Drift") Str.empty = true := id (c.fact 30 rfl)
theorem h_hd_Drift {h : Heap} {K : PySem.W.Frag} (c : Hq2.Says hS h K) : PySem.W.hasDictIn K (He.ga K "Drift") = true := id (c.fact 31 rfl)
theorem h_po_Drift {h : Heap} {K : PySem.W.Frag} (c : Hq2.Says hS h K) : PySem.W.plainOver K (He.ga K "Drift") = true := id (c.fact 32 rfl)
theorem h_sa_Drift {h : Heap} {K : PySem.W.Frag} (c : Hq2.Says hS h K) : PySem.W.findIn K (.ref (He.ga K "Drift")) "__setattr__" = some (some (.builtin "object.__setattr__")) := He.eqO_ok (c.fact 33 rfl)
theorem h_na_Drift_round_ticks {h : Heap} {K : PySem.W.Frag} (c : Hq2.Says hS h K) : PySem.W.findIn K (.ref (He.ga K "Drift")) "round_ticks" = some none := He.eqO_ok (c.fact 34 rfl)
theorem h_na_Drift_round_sum {h : Heap} {K : PySem.W.Frag} (c : Hq2.Says hS h K) : PySem.W.findIn K (.ref (He.ga K "Drift")) "round_sum" = some none := He.eqO_ok (c.fact 35 rfl)
theorem h_na_Drift__sums {h : Heap} {K : PySem.W.Frag} (c : Hq2.Says hS h K) : PySem.W.findIn K (.ref (He.ga K "Drift")) "_sums" = some none := He.eqO_ok (c.fact 36 rfl)
theorem h_ns_Stretch {h : Heap} {K : PySem.W.Frag} (c : Hq2.Says hS h K) : PySem.W.nsIn K mainGlobals "Stretch" = some (some (.ref (He.ga K "Stretch"))) := He.eqO_ok (c.fact 37 rfl)
theorem h_pg_Stretch {h : Heap} {K : PySem.W.Frag} (c : Hq2.Says hS h K) : PySem.W.plainGet K (He.ga K "Stretch") Str.empty = true := id (c.fact 38 rfl)
theorem h_hd_Stretch {h : Heap} {K : PySem.W.Frag} (c : Hq2.Says hS h K) : PySem.W.hasDictIn K (He.ga K "Stretch") = true := id (c.fact 39 rfl)
theorem h_po_Stretch {h : Heap} {K : PySem.W.Frag} (c : Hq2.Says hS h K) : PySem.W.plainOver K (He.ga K "Stretch") = true := id (c.fact 40 rfl)
theorem h_sa_Stretch {h : Heap} {K : PySem.W.Frag} (c : Hq2.Says hS h K) : PySem.W.findIn K (.ref (He.ga K "Stretch")) "__setattr__" = some (some (.builtin "object.__setattr__")) := He.eqO_ok (c.fact 41 rfl)
theorem h_na_Stretch_on {h : Heap} {K : PySem.W.Frag} (c : Hq2.Says hS h K) : PySem.W.findIn K (.ref (He.ga K "Stretch")) "on" = some none := He.eqO_ok (c.fact 42 rfl)
theorem h_na_Stretch_begin {h : Heap} {K : PySem.W.Frag} (c : Hq2.Says hS h K) : PySem.W.findIn K (.ref (He.ga K "Stretch")) "begin" = some none := He.eqO_ok (c.fact 43 rfl)
theorem h_na_Stretch__drifts {h : Heap} {K : PySem.W.Frag} (c : Hq2.Says hS h K) : PySem.W.findIn K (.ref (He.ga K "Stretch")) "_drifts" = some none := He.eqO_ok (c.fact 44 rfl)
theorem h_na_Stretch__drift {h : Heap} {K : PySem.W.Frag} (c : Hq2.Says hS h K) : PySem.W.findIn K (.ref (He.ga K "Stretch")) "_drift" = some none := He.eqO_ok (c.fact 45 rfl)
theorem h_na_Stretch__base {h : Heap} {K : PySem.W.Frag} (c : Hq2.Says hS h K) : PySem.W.findIn K (.ref (He.ga K "Stretch")) "_base" = some none := He.eqO_ok (c.fact 46 rfl)
theorem h_ns_Course {h : Heap} {K : PySem.W.Frag} (c : Hq2.Says hS h K) : PySem.W.nsIn K mainGlobals "Course" = some (some (.ref (He.ga K "Course"))) := He.eqO_ok (c.fact 47 rfl)
theorem h_pg_Course {h : Heap} {K : PySem.W.Frag} (c : Hq2.Says hS h K) : PySem.W.plainGet K (He.ga K "Course") Str.empty = true := id (c.fact 48 rfl)
theorem h_hd_Course {h : Heap} {K : PySem.W.Frag} (c : Hq2.Says hS h K) : PySem.W.hasDictIn K (He.ga K "Course") = true := id (c.fact 49 rfl)
theorem h_po_Course {h : Heap} {K : PySem.W.Frag} (c : Hq2.Says hS h K) : PySem.W.plainOver K (He.ga K "Course") = true := id (c.fact 50 rfl)
theorem h_sa_Course {h : Heap} {K : PySem.W.Frag} (c : Hq2.Says hS h K) : PySem.W.findIn K (.ref (He.ga K "Course")) "__setattr__" = some (some (.builtin "object.__setattr__")) := He.eqO_ok (c.fact 51 rfl)
theorem h_na_Course__low {h : Heap} {K : PySem.W.Frag} (c : Hq2.Says hS h K) : PySem.W.findIn K (.ref (He.ga K "Course")) "_low" = some none := He.eqO_ok (c.fact 52 rfl)
theorem h_na_Course__high {h : Heap} {K : PySem.W.Frag} (c : Hq2.Says hS h K) : PySem.W.findIn K (.ref (He.ga K "Course")) "_high" = some none := He.eqO_ok (c.fact 53 rfl)
theorem h_na_Course__stretches {h : Heap} {K : PySem.W.Frag} (c : Hq2.Says hS h K) : PySem.W.findIn K (.ref (He.ga K "Course")) "_stretches" = some none := He.eqO_ok (c.fact 54 rfl)
theorem h_na_Course__timeline {h : Heap} {K : PySem.W.Frag} (c : Hq2.Says hS h K) : PySem.W.findIn K (.ref (He.ga K "Course")) "_timeline" = some none := He.eqO_ok (c.fact 55 rfl)
theorem h_na_Course__heating {h : Heap} {K : PySem.W.Frag} (c : Hq2.Says hS h K) : PySem.W.findIn K (.ref (He.ga K "Course")) "_heating" = some none := He.eqO_ok (c.fact 56 rfl)
theorem h_ns_Heater {h : Heap} {K : PySem.W.Frag} (c : Hq2.Says hS h K) : PySem.W.nsIn K mainGlobals "Heater" = some (some (.ref (He.ga K "Heater"))) := He.eqO_ok (c.fact 57 rfl)
theorem h_pg_Heater {h : Heap} {K : PySem.W.Frag} (c : Hq2.Says hS h K) : PySem.W.plainGet K (He.ga K "Heater") Str.empty = true := id (c.fact 58 rfl)
theorem h_hd_Heater {h : Heap} {K : PySem.W.Frag} (c : Hq2.Says hS h K) : PySem.W.hasDictIn K (He.ga K "Heater") = true := id (c.fact 59 rfl)
theorem h_po_Heater {h : Heap} {K : PySem.W.Frag} (c : Hq2.Says hS h K) : PySem.W.plainOver K (He.ga K "Heater") = true := id (c.fact 60 rfl)
theorem h_sa_Heater {h : Heap} {K : PySem.W.Frag} (c : Hq2.Says hS h K) : PySem.W.findIn K (.ref (He.ga K "Heater")) "__setattr__" = some (some (.builtin "object.__setattr__")) := He.eqO_ok (c.fact 61 rfl)
theorem h_na_Heater__gain {h : Heap} {K : PySem.W.Frag} (c : Hq2.Says hS h K) : PySem.W.findIn K (.ref (He.ga K "Heater")) "_gain" = some none := He.eqO_ok (c.fact 62 rfl)
theorem h_na_Heater__low {h : Heap} {K : PySem.W.Frag} (c : Hq2.Says hS h K) : PySem.W.findIn K (.ref (He.ga K "Heater")) "_low" = some none := He.eqO_ok (c.fact 63 rfl)
theorem h_na_Heater__high {h : Heap} {K : PySem.W.Frag} (c : Hq2.Says hS h K) : PySem.W.findIn K (.ref (He.ga K "Heater")) "_high" = some none := He.eqO_ok (c.fact 64 rfl)
theorem h_ns_Room {h : Heap} {K : PySem.W.Frag} (c : Hq2.Says hS h K) : PySem.W.nsIn K mainGlobals "Room" = some (some (.ref (He.ga K "Room"))) := He.eqO_ok (c.fact 65 rfl)
theorem h_pg_Room {h : Heap} {K : PySem.W.Frag} (c : Hq2.Says hS h K) : PySem.W.plainGet K (He.ga K "Room") Str.empty = true := id (c.fact 66 rfl)
theorem h_hd_Room {h : Heap} {K : PySem.W.Frag} (c : Hq2.Says hS h K) : PySem.W.hasDictIn K (He.ga K "Room") = true := id (c.fact 67 rfl)
theorem h_po_Room {h : Heap} {K : PySem.W.Frag} (c : Hq2.Says hS h K) : PySem.W.plainOver K (He.ga K "Room") = true := id (c.fact 68 rfl)
theorem h_sa_Room {h : Heap} {K : PySem.W.Frag} (c : Hq2.Says hS h K) : PySem.W.findIn K (.ref (He.ga K "Room")) "__setattr__" = some (some (.builtin "object.__setattr__")) := He.eqO_ok (c.fact 69 rfl)
theorem h_na_Room__weather {h : Heap} {K : PySem.W.Frag} (c : Hq2.Says hS h K) : PySem.W.findIn K (.ref (He.ga K "Room")) "_weather" = some none := He.eqO_ok (c.fact 70 rfl)
theorem h_na_Room__heater {h : Heap} {K : PySem.W.Frag} (c : Hq2.Says hS h K) : PySem.W.findIn K (.ref (He.ga K "Room")) "_heater" = some none := He.eqO_ok (c.fact 71 rfl)
theorem h_na_Room__start {h : Heap} {K : PySem.W.Frag} (c : Hq2.Says hS h K) : PySem.W.findIn K (.ref (He.ga K "Room")) "_start" = some none := He.eqO_ok (c.fact 72 rfl)
theorem h_na_Room_course {h : Heap} {K : PySem.W.Frag} (c : Hq2.Says hS h K) : PySem.W.findIn K (.ref (He.ga K "Room")) "course" = some none := He.eqO_ok (c.fact 73 rfl)
theorem h_na_Room__unswitched {h : Heap} {K : PySem.W.Frag} (c : Hq2.Says hS h K) : PySem.W.findIn K (.ref (He.ga K "Room")) "_unswitched" = some none := He.eqO_ok (c.fact 74 rfl)
theorem h_at_check_number {h : Heap} {K : PySem.W.Frag} (c : Hq2.Says hS h K) : PySem.W.nsIn K mainGlobals "check_number" = some (some (.ref (He.ga K "check_number"))) := He.eqO_ok (c.fact 75 rfl)
theorem h_kp_check_number {h : Heap} {K : PySem.W.Frag} (c : Hq2.Says hS h K) : PySem.W.keepIn K (.ref (He.ga K "check_number")) = true := id (c.fact 76 rfl)
theorem h_at_first_invalid {h : Heap} {K : PySem.W.Frag} (c : Hq2.Says hS h K) : PySem.W.nsIn K mainGlobals "first_invalid" = some (some (.ref (He.ga K "first_invalid"))) := He.eqO_ok (c.fact 77 rfl)
theorem h_kp_first_invalid {h : Heap} {K : PySem.W.Frag} (c : Hq2.Says hS h K) : PySem.W.keepIn K (.ref (He.ga K "first_invalid")) = true := id (c.fact 78 rfl)
theorem h_at_sum_of_first {h : Heap} {K : PySem.W.Frag} (c : Hq2.Says hS h K) : PySem.W.nsIn K mainGlobals "sum_of_first" = some (some (.ref (He.ga K "sum_of_first"))) := He.eqO_ok (c.fact 79 rfl)
theorem h_kp_sum_of_first {h : Heap} {K : PySem.W.Frag} (c : Hq2.Says hS h K) : PySem.W.keepIn K (.ref (He.ga K "sum_of_first")) = true := id (c.fact 80 rfl)
theorem h_at_added_rounds {h : Heap} {K : PySem.W.Frag} (c : Hq2.Says hS h K) : PySem.W.nsIn K mainGlobals "added_rounds" = some (some (.ref (He.ga K "added_rounds"))) := He.eqO_ok (c.fact 81 rfl)
theorem h_kp_added_rounds {h : Heap} {K : PySem.W.Frag} (c : Hq2.Says hS h K) : PySem.W.keepIn K (.ref (He.ga K "added_rounds")) = true := id (c.fact 82 rfl)
theorem h_at_Weather_init {h : Heap} {K : PySem.W.Frag} (c : Hq2.Says hS h K) : PySem.W.findIn K (.ref (He.ga K "Weather")) "__init__" = some (some (.ref (He.ma K (He.ga K "Weather") "__init__"))) := He.eqO_ok (c.fact 83 rfl)
theorem h_fn_Weather_init {h : Heap} {K : PySem.W.Frag} (c : Hq2.Says hS h K) : PySem.W.isFn K (.ref (He.ma K (He.ga K "Weather") "__init__")) = true := id (c.fact 84 rfl)
theorem h_kp_Weather_init {h : Heap} {K : PySem.W.Frag} (c : Hq2.Says hS h K) : PySem.W.keepIn K (.ref (He.ma K (He.ga K "Weather") "__init__")) = true := id (c.fact 85 rfl)
theorem h_mk_Weather {h : Heap} {K : PySem.W.Frag} (c : Hq2.Says hS h K) : PySem.W.makesIn K (He.ga K "Weather") = true := id (c.fact 86 rfl)
theorem h_kc_Weather {h : Heap} {K : PySem.W.Frag} (c : Hq2.Says hS h K) : PySem.W.keepIn K (.ref (He.ga K "Weather")) = true := id (c.fact 87 rfl)
theorem h_at_Weather_len {h : Heap} {K : PySem.W.Frag} (c : Hq2.Says hS h K) : PySem.W.findIn K (.ref (He.ga K "Weather")) "__len__" = some (some (.ref (He.ma K (He.ga K "Weather") "__len__"))) := He.eqO_ok (c.fact 88 rfl)
theorem h_fn_Weather_len {h : Heap} {K : PySem.W.Frag} (c : Hq2.Says hS h K) : PySem.W.isFn K (.ref (He.ma K (He.ga K "Weather") "__len__")) = true := id (c.fact 89 rfl)
theorem h_kp_Weather_len {h : Heap} {K : PySem.W.Frag} (c : Hq2.Says hS h K) : PySem.W.keepIn K (.ref (He.ma K (He.ga K "Weather") "__len__")) = true := id (c.fact 90 rfl)
theorem h_at_Weather_add {h : Heap} {K : PySem.W.Frag} (c : Hq2.Says hS h K) : PySem.W.findIn K (.ref (He.ga K "Weather")) "__add__" = some (some (.ref (He.ma K (He.ga K "Weather") "__add__"))) := He.eqO_ok (c.fact 91 rfl)
theorem h_fn_Weather_add {h : Heap} {K : PySem.W.Frag} (c : Hq2.Says hS h K) : PySem.W.isFn K (.ref (He.ma K (He.ga K "Weather") "__add__")) = true := id (c.fact 92 rfl)
theorem h_kp_Weather_add {h : Heap} {K : PySem.W.Frag} (c : Hq2.Says hS h K) : PySem.W.keepIn K (.ref (He.ma K (He.ga K "Weather") "__add__")) = true := id (c.fact 93 rfl)
theorem h_at_Weather_mul {h : Heap} {K : PySem.W.Frag} (c : Hq2.Says hS h K) : PySem.W.findIn K (.ref (He.ga K "Weather")) "__mul__" = some (some (.ref (He.ma K (He.ga K "Weather") "__mul__"))) := He.eqO_ok (c.fact 94 rfl)
theorem h_fn_Weather_mul {h : Heap} {K : PySem.W.Frag} (c : Hq2.Says hS h K) : PySem.W.isFn K (.ref (He.ma K (He.ga K "Weather") "__mul__")) = true := id (c.fact 95 rfl)
theorem h_kp_Weather_mul {h : Heap} {K : PySem.W.Frag} (c : Hq2.Says hS h K) : PySem.W.keepIn K (.ref (He.ma K (He.ga K "Weather") "__mul__")) = true := id (c.fact 96 rfl)
theorem h_at_Prices_init {h : Heap} {K : PySem.W.Frag} (c : Hq2.Says hS h K) : PySem.W.findIn K (.ref (He.ga K "Prices")) "__init__" = some (some (.ref (He.ma K (He.ga K "Prices") "__init__"))) := He.eqO_ok (c.fact 97 rfl)
theorem h_fn_Prices_init {h : Heap} {K : PySem.W.Frag} (c : Hq2.Says hS h K) : PySem.W.isFn K (.ref (He.ma K (He.ga K "Prices") "__init__")) = true := id (c.fact 98 rfl)
theorem h_kp_Prices_init {h : Heap} {K : PySem.W.Frag} (c : Hq2.Says hS h K) : PySem.W.keepIn K (.ref (He.ma K (He.ga K "Prices") "__init__")) = true := id (c.fact 99 rfl)
theorem h_mk_Prices {h : Heap} {K : PySem.W.Frag} (c : Hq2.Says hS h K) : PySem.W.makesIn K (He.ga K "Prices") = true := id (c.fact 100 rfl)
theorem h_kc_Prices {h : Heap} {K : PySem.W.Frag} (c : Hq2.Says hS h K) : PySem.W.keepIn K (.ref (He.ga K "Prices")) = true := id (c.fact 101 rfl)
theorem h_at_heating_cost {h : Heap} {K : PySem.W.Frag} (c : Hq2.Says hS h K) : PySem.W.nsIn K mainGlobals "heating_cost" = some (some (.ref (He.ga K "heating_cost"))) := He.eqO_ok (c.fact 102 rfl)
theorem h_kp_heating_cost {h : Heap} {K : PySem.W.Frag} (c : Hq2.Says hS h K) : PySem.W.keepIn K (.ref (He.ga K "heating_cost")) = true := id (c.fact 103 rfl)
theorem h_at_first_over {h : Heap} {K : PySem.W.Frag} (c : Hq2.Says hS h K) : PySem.W.nsIn K mainGlobals "first_over" = some (some (.ref (He.ga K "first_over"))) := He.eqO_ok (c.fact 104 rfl)
theorem h_kp_first_over {h : Heap} {K : PySem.W.Frag} (c : Hq2.Says hS h K) : PySem.W.keepIn K (.ref (He.ga K "first_over")) = true := id (c.fact 105 rfl)
theorem h_at_cost_share {h : Heap} {K : PySem.W.Frag} (c : Hq2.Says hS h K) : PySem.W.nsIn K mainGlobals "cost_share" = some (some (.ref (He.ga K "cost_share"))) := He.eqO_ok (c.fact 106 rfl)
theorem h_kp_cost_share {h : Heap} {K : PySem.W.Frag} (c : Hq2.Says hS h K) : PySem.W.keepIn K (.ref (He.ga K "cost_share")) = true := id (c.fact 107 rfl)
theorem h_at_lowest_terms {h : Heap} {K : PySem.W.Frag} (c : Hq2.Says hS h K) : PySem.W.nsIn K mainGlobals "lowest_terms" = some (some (.ref (He.ga K "lowest_terms"))) := He.eqO_ok (c.fact 108 rfl)
theorem h_kp_lowest_terms {h : Heap} {K : PySem.W.Frag} (c : Hq2.Says hS h K) : PySem.W.keepIn K (.ref (He.ga K "lowest_terms")) = true := id (c.fact 109 rfl)
theorem h_at_Timeline_init {h : Heap} {K : PySem.W.Frag} (c : Hq2.Says hS h K) : PySem.W.findIn K (.ref (He.ga K "Timeline")) "__init__" = some (some (.ref (He.ma K (He.ga K "Timeline") "__init__"))) := He.eqO_ok (c.fact 110 rfl)
theorem h_fn_Timeline_init {h : Heap} {K : PySem.W.Frag} (c : Hq2.Says hS h K) : PySem.W.isFn K (.ref (He.ma K (He.ga K "Timeline") "__init__")) = true := id (c.fact 111 rfl)
theorem h_kp_Timeline_init {h : Heap} {K : PySem.W.Frag} (c : Hq2.Says hS h K) : PySem.W.keepIn K (.ref (He.ma K (He.ga K "Timeline") "__init__")) = true := id (c.fact 112 rfl)
theorem h_mk_Timeline {h : Heap} {K : PySem.W.Frag} (c : Hq2.Says hS h K) : PySem.W.makesIn K (He.ga K "Timeline") = true := id (c.fact 113 rfl)
theorem h_kc_Timeline {h : Heap} {K : PySem.W.Frag} (c : Hq2.Says hS h K) : PySem.W.keepIn K (.ref (He.ga K "Timeline")) = true := id (c.fact 114 rfl)
theorem h_at_Timeline_ticks_of_round {h : Heap} {K : PySem.W.Frag} (c : Hq2.Says hS h K) : PySem.W.findIn K (.ref (He.ga K "Timeline")) "ticks_of_round" = some (some (.ref (He.ma K (He.ga K "Timeline") "ticks_of_round"))) := He.eqO_ok (c.fact 115 rfl)
theorem h_fn_Timeline_ticks_of_round {h : Heap} {K : PySem.W.Frag} (c : Hq2.Says hS h K) : PySem.W.isFn K (.ref (He.ma K (He.ga K "Timeline") "ticks_of_round")) = true := id (c.fact 116 rfl)
theorem h_kp_Timeline_ticks_of_round {h : Heap} {K : PySem.W.Frag} (c : Hq2.Says hS h K) : PySem.W.keepIn K (.ref (He.ma K (He.ga K "Timeline") "ticks_of_round")) = true := id (c.fact 117 rfl)
theorem h_at_Timeline_begin_of {h : Heap} {K : PySem.W.Frag} (c : Hq2.Says hS h K) : PySem.W.findIn K (.ref (He.ga K "Timeline")) "begin_of" = some (some (.ref (He.ma K (He.ga K "Timeline") "begin_of"))) := He.eqO_ok (c.fact 118 rfl)
theorem h_fn_Timeline_begin_of {h : Heap} {K : PySem.W.Frag} (c : Hq2.Says hS h K) : PySem.W.isFn K (.ref (He.ma K (He.ga K "Timeline") "begin_of")) = true := id (c.fact 119 rfl)
theorem h_kp_Timeline_begin_of {h : Heap} {K : PySem.W.Frag} (c : Hq2.Says hS h K) : PySem.W.keepIn K (.ref (He.ma K (He.ga K "Timeline") "begin_of")) = true := id (c.fact 120 rfl)
theorem h_at_Timeline_place {h : Heap} {K : PySem.W.Frag} (c : Hq2.Says hS h K) : PySem.W.findIn K (.ref (He.ga K "Timeline")) "place" = some (some (.ref (He.ma K (He.ga K "Timeline") "place"))) := He.eqO_ok (c.fact 121 rfl)
theorem h_fn_Timeline_place {h : Heap} {K : PySem.W.Frag} (c : Hq2.Says hS h K) : PySem.W.isFn K (.ref (He.ma K (He.ga K "Timeline") "place")) = true := id (c.fact 122 rfl)
theorem h_kp_Timeline_place {h : Heap} {K : PySem.W.Frag} (c : Hq2.Says hS h K) : PySem.W.keepIn K (.ref (He.ma K (He.ga K "Timeline") "place")) = true := id (c.fact 123 rfl)
theorem h_at_Timeline_number_at {h : Heap} {K : PySem.W.Frag} (c : Hq2.Says hS h K) : PySem.W.findIn K (.ref (He.ga K "Timeline")) "_number_at" = some (some (.ref (He.ma K (He.ga K "Timeline") "_number_at"))) := He.eqO_ok (c.fact 124 rfl)
theorem h_fn_Timeline_number_at {h : Heap} {K : PySem.W.Frag} (c : Hq2.Says hS h K) : PySem.W.isFn K (.ref (He.ma K (He.ga K "Timeline") "_number_at")) = true := id (c.fact 125 rfl)
theorem h_kp_Timeline_number_at {h : Heap} {K : PySem.W.Frag} (c : Hq2.Says hS h K) : PySem.W.keepIn K (.ref (He.ma K (He.ga K "Timeline") "_number_at")) = true := id (c.fact 126 rfl)
theorem h_at_Timeline_in_rounds_of {h : Heap} {K : PySem.W.Frag} (c : Hq2.Says hS h K) : PySem.W.findIn K (.ref (He.ga K "Timeline")) "in_rounds_of" = some (some (.ref (He.ma K (He.ga K "Timeline") "in_rounds_of"))) := He.eqO_ok (c.fact 127 rfl)
theorem h_fn_Timeline_in_rounds_of {h : Heap} {K : PySem.W.Frag} (c : Hq2.Says hS h K) : PySem.W.isFn K (.ref (He.ma K (He.ga K "Timeline") "in_rounds_of")) = true := id (c.fact 128 rfl)
theorem h_kp_Timeline_in_rounds_of {h : Heap} {K : PySem.W.Frag} (c : Hq2.Says hS h K) : PySem.W.keepIn K (.ref (He.ma K (He.ga K "Timeline") "in_rounds_of")) = true := id (c.fact 129 rfl)
theorem h_at_HeatingSum_init {h : Heap} {K : PySem.W.Frag} (c : Hq2.Says hS h K) : PySem.W.findIn K (.ref (He.ga K "HeatingSum")) "__init__" = some (some (.ref (He.ma K (He.ga K "HeatingSum") "__init__"))) := He.eqO_ok (c.fact 130 rfl)
theorem h_fn_HeatingSum_init {h : Heap} {K : PySem.W.Frag} (c : Hq2.Says hS h K) : PySem.W.isFn K (.ref (He.ma K (He.ga K "HeatingSum") "__init__")) = true := id (c.fact 131 rfl)
theorem h_kp_HeatingSum_init {h : Heap} {K : PySem.W.Frag} (c : Hq2.Says hS h K) : PySem.W.keepIn K (.ref (He.ma K (He.ga K "HeatingSum") "__init__")) = true := id (c.fact 132 rfl)
theorem h_mk_HeatingSum {h : Heap} {K : PySem.W.Frag} (c : Hq2.Says hS h K) : PySem.W.makesIn K (He.ga K "HeatingSum") = true := id (c.fact 133 rfl)
theorem h_kc_HeatingSum {h : Heap} {K : PySem.W.Frag} (c : Hq2.Says hS h K) : PySem.W.keepIn K (.ref (He.ga K "HeatingSum")) = true := id (c.fact 134 rfl)
theorem h_at_HeatingSum_is_on {h : Heap} {K : PySem.W.Frag} (c : Hq2.Says hS h K) : PySem.W.findIn K (.ref (He.ga K "HeatingSum")) "_is_on" = some (some (.ref (He.ma K (He.ga K "HeatingSum") "_is_on"))) := He.eqO_ok (c.fact 135 rfl)
theorem h_fn_HeatingSum_is_on {h : Heap} {K : PySem.W.Frag} (c : Hq2.Says hS h K) : PySem.W.isFn K (.ref (He.ma K (He.ga K "HeatingSum") "_is_on")) = true := id (c.fact 136 rfl)
theorem h_kp_HeatingSum_is_on {h : Heap} {K : PySem.W.Frag} (c : Hq2.Says hS h K) : PySem.W.keepIn K (.ref (He.ma K (He.ga K "HeatingSum") "_is_on")) = true := id (c.fact 137 rfl)
theorem h_at_HeatingSum_sum_within {h : Heap} {K : PySem.W.Frag} (c : Hq2.Says hS h K) : PySem.W.findIn K (.ref (He.ga K "HeatingSum")) "_sum_within" = some (some (.ref (He.ma K (He.ga K "HeatingSum") "_sum_within"))) := He.eqO_ok (c.fact 138 rfl)
theorem h_fn_HeatingSum_sum_within {h : Heap} {K : PySem.W.Frag} (c : Hq2.Says hS h K) : PySem.W.isFn K (.ref (He.ma K (He.ga K "HeatingSum") "_sum_within")) = true := id (c.fact 139 rfl)
theorem h_kp_HeatingSum_sum_within {h : Heap} {K : PySem.W.Frag} (c : Hq2.Says hS h K) : PySem.W.keepIn K (.ref (He.ma K (He.ga K "HeatingSum") "_sum_within")) = true := id (c.fact 140 rfl)
theorem h_at_HeatingSum_sum_before {h : Heap} {K : PySem.W.Frag} (c : Hq2.Says hS h K) : PySem.W.findIn K (.ref (He.ga K "HeatingSum")) "sum_before" = some (some (.ref (He.ma K (He.ga K "HeatingSum") "sum_before"))) := He.eqO_ok (c.fact 141 rfl)
theorem h_fn_HeatingSum_sum_before {h : Heap} {K : PySem.W.Frag} (c : Hq2.Says hS h K) : PySem.W.isFn K (.ref (He.ma K (He.ga K "HeatingSum") "sum_before")) = true := id (c.fact 142 rfl)
theorem h_kp_HeatingSum_sum_before {h : Heap} {K : PySem.W.Frag} (c : Hq2.Says hS h K) : PySem.W.keepIn K (.ref (He.ma K (He.ga K "HeatingSum") "sum_before")) = true := id (c.fact 143 rfl)
theorem h_at_HeatingSum_sum_of_round {h : Heap} {K : PySem.W.Frag} (c : Hq2.Says hS h K) : PySem.W.findIn K (.ref (He.ga K "HeatingSum")) "_sum_of_round" = some (some (.ref (He.ma K (He.ga K "HeatingSum") "_sum_of_round"))) := He.eqO_ok (c.fact 144 rfl)
theorem h_fn_HeatingSum_sum_of_round {h : Heap} {K : PySem.W.Frag} (c : Hq2.Says hS h K) : PySem.W.isFn K (.ref (He.ma K (He.ga K "HeatingSum") "_sum_of_round")) = true := id (c.fact 145 rfl)
theorem h_kp_HeatingSum_sum_of_round {h : Heap} {K : PySem.W.Frag} (c : Hq2.Says hS h K) : PySem.W.keepIn K (.ref (He.ma K (He.ga K "HeatingSum") "_sum_of_round")) = true := id (c.fact 146 rfl)
theorem h_at_HeatingSum_share {h : Heap} {K : PySem.W.Frag} (c : Hq2.Says hS h K) : PySem.W.findIn K (.ref (He.ga K "HeatingSum")) "share" = some (some (.ref (He.ma K (He.ga K "HeatingSum") "share"))) := He.eqO_ok (c.fact 147 rfl)
theorem h_fn_HeatingSum_share {h : Heap} {K : PySem.W.Frag} (c : Hq2.Says hS h K) : PySem.W.isFn K (.ref (He.ma K (He.ga K "HeatingSum") "share")) = true := id (c.fact 148 rfl)
theorem h_kp_HeatingSum_share {h : Heap} {K : PySem.W.Frag} (c : Hq2.Says hS h K) : PySem.W.keepIn K (.ref (He.ma K (He.ga K "HeatingSum") "share")) = true := id (c.fact 149 rfl)
theorem h_at_Drift_init {h : Heap} {K : PySem.W.Frag} (c : Hq2.Says hS h K) : PySem.W.findIn K (.ref (He.ga K "Drift")) "__init__" = some (some (.ref (He.ma K (He.ga K "Drift") "__init__"))) := He.eqO_ok (c.fact 150 rfl)
theorem h_fn_Drift_init {h : Heap} {K : PySem.W.Frag} (c : Hq2.Says hS h K) : PySem.W.isFn K (.ref (He.ma K (He.ga K "Drift") "__init__")) = true := id (c.fact 151 rfl)
theorem h_kp_Drift_init {h : Heap} {K : PySem.W.Frag} (c : Hq2.Says hS h K) : PySem.W.keepIn K (.ref (He.ma K (He.ga K "Drift") "__init__")) = true := id (c.fact 152 rfl)
theorem h_mk_Drift {h : Heap} {K : PySem.W.Frag} (c : Hq2.Says hS h K) : PySem.W.makesIn K (He.ga K "Drift") = true := id (c.fact 153 rfl)
theorem h_kc_Drift {h : Heap} {K : PySem.W.Frag} (c : Hq2.Says hS h K) : PySem.W.keepIn K (.ref (He.ga K "Drift")) = true := id (c.fact 154 rfl)
theorem h_at_Drift_sum_to {h : Heap} {K : PySem.W.Frag} (c : Hq2.Says hS h K) : PySem.W.findIn K (.ref (He.ga K "Drift")) "sum_to" = some (some (.ref (He.ma K (He.ga K "Drift") "sum_to"))) := He.eqO_ok (c.fact 155 rfl)
theorem h_fn_Drift_sum_to {h : Heap} {K : PySem.W.Frag} (c : Hq2.Says hS h K) : PySem.W.isFn K (.ref (He.ma K (He.ga K "Drift") "sum_to")) = true := id (c.fact 156 rfl)
theorem h_kp_Drift_sum_to {h : Heap} {K : PySem.W.Frag} (c : Hq2.Says hS h K) : PySem.W.keepIn K (.ref (He.ma K (He.ga K "Drift") "sum_to")) = true := id (c.fact 157 rfl)
theorem h_at_both_drifts {h : Heap} {K : PySem.W.Frag} (c : Hq2.Says hS h K) : PySem.W.nsIn K mainGlobals "both_drifts" = some (some (.ref (He.ga K "both_drifts"))) := He.eqO_ok (c.fact 158 rfl)
theorem h_kp_both_drifts {h : Heap} {K : PySem.W.Frag} (c : Hq2.Says hS h K) : PySem.W.keepIn K (.ref (He.ga K "both_drifts")) = true := id (c.fact 159 rfl)
theorem h_at_Stretch_init {h : Heap} {K : PySem.W.Frag} (c : Hq2.Says hS h K) : PySem.W.findIn K (.ref (He.ga K "Stretch")) "__init__" = some (some (.ref (He.ma K (He.ga K "Stretch") "__init__"))) := He.eqO_ok (c.fact 160 rfl)
theorem h_fn_Stretch_init {h : Heap} {K : PySem.W.Frag} (c : Hq2.Says hS h K) : PySem.W.isFn K (.ref (He.ma K (He.ga K "Stretch") "__init__")) = true := id (c.fact 161 rfl)
theorem h_kp_Stretch_init {h : Heap} {K : PySem.W.Frag} (c : Hq2.Says hS h K) : PySem.W.keepIn K (.ref (He.ma K (He.ga K "Stretch") "__init__")) = true := id (c.fact 162 rfl)
theorem h_mk_Stretch {h : Heap} {K : PySem.W.Frag} (c : Hq2.Says hS h K) : PySem.W.makesIn K (He.ga K "Stretch") = true := id (c.fact 163 rfl)
theorem h_kc_Stretch {h : Heap} {K : PySem.W.Frag} (c : Hq2.Says hS h K) : PySem.W.keepIn K (.ref (He.ga K "Stretch")) = true := id (c.fact 164 rfl)
theorem h_at_Stretch_degrees_at {h : Heap} {K : PySem.W.Frag} (c : Hq2.Says hS h K) : PySem.W.findIn K (.ref (He.ga K "Stretch")) "degrees_at" = some (some (.ref (He.ma K (He.ga K "Stretch") "degrees_at"))) := He.eqO_ok (c.fact 165 rfl)
theorem h_fn_Stretch_degrees_at {h : Heap} {K : PySem.W.Frag} (c : Hq2.Says hS h K) : PySem.W.isFn K (.ref (He.ma K (He.ga K "Stretch") "degrees_at")) = true := id (c.fact 166 rfl)
theorem h_kp_Stretch_degrees_at {h : Heap} {K : PySem.W.Frag} (c : Hq2.Says hS h K) : PySem.W.keepIn K (.ref (He.ma K (He.ga K "Stretch") "degrees_at")) = true := id (c.fact 167 rfl)
theorem h_at_Stretch_begin_state {h : Heap} {K : PySem.W.Frag} (c : Hq2.Says hS h K) : PySem.W.findIn K (.ref (He.ga K "Stretch")) "begin_state" = some (some (.ref (He.ma K (He.ga K "Stretch") "begin_state"))) := He.eqO_ok (c.fact 168 rfl)
theorem h_fn_Stretch_begin_state {h : Heap} {K : PySem.W.Frag} (c : Hq2.Says hS h K) : PySem.W.isFn K (.ref (He.ma K (He.ga K "Stretch") "begin_state")) = true := id (c.fact 169 rfl)
theorem h_kp_Stretch_begin_state {h : Heap} {K : PySem.W.Frag} (c : Hq2.Says hS h K) : PySem.W.keepIn K (.ref (He.ma K (He.ga K "Stretch") "begin_state")) = true := id (c.fact 170 rfl)
theorem h_at_Stretch_switched {h : Heap} {K : PySem.W.Frag} (c : Hq2.Says hS h K) : PySem.W.findIn K (.ref (He.ga K "Stretch")) "switched" = some (some (.ref (He.ma K (He.ga K "Stretch") "switched"))) := He.eqO_ok (c.fact 171 rfl)
theorem h_fn_Stretch_switched {h : Heap} {K : PySem.W.Frag} (c : Hq2.Says hS h K) : PySem.W.isFn K (.ref (He.ma K (He.ga K "Stretch") "switched")) = true := id (c.fact 172 rfl)
theorem h_kp_Stretch_switched {h : Heap} {K : PySem.W.Frag} (c : Hq2.Says hS h K) : PySem.W.keepIn K (.ref (He.ma K (He.ga K "Stretch") "switched")) = true := id (c.fact 173 rfl)
theorem h_at_Stretch_level_ticks {h : Heap} {K : PySem.W.Frag} (c : Hq2.Says hS h K) : PySem.W.findIn K (.ref (He.ga K "Stretch")) "level_ticks" = some (some (.ref (He.ma K (He.ga K "Stretch") "level_ticks"))) := He.eqO_ok (c.fact 174 rfl)
theorem h_fn_Stretch_level_ticks {h : Heap} {K : PySem.W.Frag} (c : Hq2.Says hS h K) : PySem.W.isFn K (.ref (He.ma K (He.ga K "Stretch") "level_ticks")) = true := id (c.fact 175 rfl)
theorem h_kp_Stretch_level_ticks {h : Heap} {K : PySem.W.Frag} (c : Hq2.Says hS h K) : PySem.W.keepIn K (.ref (He.ma K (He.ga K "Stretch") "level_ticks")) = true := id (c.fact 176 rfl)
theorem h_at_Stretch_first_beyond {h : Heap} {K : PySem.W.Frag} (c : Hq2.Says hS h K) : PySem.W.findIn K (.ref (He.ga K "Stretch")) "first_beyond" = some (some (.ref (He.ma K (He.ga K "Stretch") "first_beyond"))) := He.eqO_ok (c.fact 177 rfl)
theorem h_fn_Stretch_first_beyond {h : Heap} {K : PySem.W.Frag} (c : Hq2.Says hS h K) : PySem.W.isFn K (.ref (He.ma K (He.ga K "Stretch") "first_beyond")) = true := id (c.fact 178 rfl)
theorem h_kp_Stretch_first_beyond {h : Heap} {K : PySem.W.Frag} (c : Hq2.Says hS h K) : PySem.W.keepIn K (.ref (He.ma K (He.ga K "Stretch") "first_beyond")) = true := id (c.fact 179 rfl)
theorem h_at_heater_state {h : Heap} {K : PySem.W.Frag} (c : Hq2.Says hS h K) : PySem.W.nsIn K mainGlobals "heater_state" = some (some (.ref (He.ga K "heater_state"))) := He.eqO_ok (c.fact 180 rfl)
theorem h_kp_heater_state {h : Heap} {K : PySem.W.Frag} (c : Hq2.Says hS h K) : PySem.W.keepIn K (.ref (He.ga K "heater_state")) = true := id (c.fact 181 rfl)
theorem h_at_Course_init {h : Heap} {K : PySem.W.Frag} (c : Hq2.Says hS h K) : PySem.W.findIn K (.ref (He.ga K "Course")) "__init__" = some (some (.ref (He.ma K (He.ga K "Course") "__init__"))) := He.eqO_ok (c.fact 182 rfl)
theorem h_fn_Course_init {h : Heap} {K : PySem.W.Frag} (c : Hq2.Says hS h K) : PySem.W.isFn K (.ref (He.ma K (He.ga K "Course") "__init__")) = true := id (c.fact 183 rfl)
theorem h_kp_Course_init {h : Heap} {K : PySem.W.Frag} (c : Hq2.Says hS h K) : PySem.W.keepIn K (.ref (He.ma K (He.ga K "Course") "__init__")) = true := id (c.fact 184 rfl)
theorem h_mk_Course {h : Heap} {K : PySem.W.Frag} (c : Hq2.Says hS h K) : PySem.W.makesIn K (He.ga K "Course") = true := id (c.fact 185 rfl)
theorem h_kc_Course {h : Heap} {K : PySem.W.Frag} (c : Hq2.Says hS h K) : PySem.W.keepIn K (.ref (He.ga K "Course")) = true := id (c.fact 186 rfl)
theorem h_at_Course_follow {h : Heap} {K : PySem.W.Frag} (c : Hq2.Says hS h K) : PySem.W.findIn K (.ref (He.ga K "Course")) "_follow" = some (some (.ref (He.ma K (He.ga K "Course") "_follow"))) := He.eqO_ok (c.fact 187 rfl)
theorem h_fn_Course_follow {h : Heap} {K : PySem.W.Frag} (c : Hq2.Says hS h K) : PySem.W.isFn K (.ref (He.ma K (He.ga K "Course") "_follow")) = true := id (c.fact 188 rfl)
theorem h_kp_Course_follow {h : Heap} {K : PySem.W.Frag} (c : Hq2.Says hS h K) : PySem.W.keepIn K (.ref (He.ma K (He.ga K "Course") "_follow")) = true := id (c.fact 189 rfl)
theorem h_at_Course_end_of {h : Heap} {K : PySem.W.Frag} (c : Hq2.Says hS h K) : PySem.W.findIn K (.ref (He.ga K "Course")) "_end_of" = some (some (.ref (He.ma K (He.ga K "Course") "_end_of"))) := He.eqO_ok (c.fact 190 rfl)
theorem h_fn_Course_end_of {h : Heap} {K : PySem.W.Frag} (c : Hq2.Says hS h K) : PySem.W.isFn K (.ref (He.ma K (He.ga K "Course") "_end_of")) = true := id (c.fact 191 rfl)
theorem h_kp_Course_end_of {h : Heap} {K : PySem.W.Frag} (c : Hq2.Says hS h K) : PySem.W.keepIn K (.ref (He.ma K (He.ga K "Course") "_end_of")) = true := id (c.fact 192 rfl)
theorem h_at_Course_on_in {h : Heap} {K : PySem.W.Frag} (c : Hq2.Says hS h K) : PySem.W.findIn K (.ref (He.ga K "Course")) "on_in" = some (some (.ref (He.ma K (He.ga K "Course") "on_in"))) := He.eqO_ok (c.fact 193 rfl)
theorem h_fn_Course_on_in {h : Heap} {K : PySem.W.Frag} (c : Hq2.Says hS h K) : PySem.W.isFn K (.ref (He.ma K (He.ga K "Course") "on_in")) = true := id (c.fact 194 rfl)
theorem h_kp_Course_on_in {h : Heap} {K : PySem.W.Frag} (c : Hq2.Says hS h K) : PySem.W.keepIn K (.ref (He.ma K (He.ga K "Course") "on_in")) = true := id (c.fact 195 rfl)
theorem h_at_Course_heating_sum {h : Heap} {K : PySem.W.Frag} (c : Hq2.Says hS h K) : PySem.W.findIn K (.ref (He.ga K "Course")) "heating_sum" = some (some (.ref (He.ma K (He.ga K "Course") "heating_sum"))) := He.eqO_ok (c.fact 196 rfl)
theorem h_fn_Course_heating_sum {h : Heap} {K : PySem.W.Frag} (c : Hq2.Says hS h K) : PySem.W.isFn K (.ref (He.ma K (He.ga K "Course") "heating_sum")) = true := id (c.fact 197 rfl)
theorem h_kp_Course_heating_sum {h : Heap} {K : PySem.W.Frag} (c : Hq2.Says hS h K) : PySem.W.keepIn K (.ref (He.ma K (He.ga K "Course") "heating_sum")) = true := id (c.fact 198 rfl)
theorem h_at_Course_heated_before {h : Heap} {K : PySem.W.Frag} (c : Hq2.Says hS h K) : PySem.W.findIn K (.ref (He.ga K "Course")) "heated_before" = some (some (.ref (He.ma K (He.ga K "Course") "heated_before"))) := He.eqO_ok (c.fact 199 rfl)
theorem h_fn_Course_heated_before {h : Heap} {K : PySem.W.Frag} (c : Hq2.Says hS h K) : PySem.W.isFn K (.ref (He.ma K (He.ga K "Course") "heated_before")) = true := id (c.fact 200 rfl)
theorem h_kp_Course_heated_before {h : Heap} {K : PySem.W.Frag} (c : Hq2.Says hS h K) : PySem.W.keepIn K (.ref (He.ma K (He.ga K "Course") "heated_before")) = true := id (c.fact 201 rfl)
theorem h_at_Course_recurrence {h : Heap} {K : PySem.W.Frag} (c : Hq2.Says hS h K) : PySem.W.findIn K (.ref (He.ga K "Course")) "recurrence" = some (some (.ref (He.ma K (He.ga K "Course") "recurrence"))) := He.eqO_ok (c.fact 202 rfl)
theorem h_fn_Course_recurrence {h : Heap} {K : PySem.W.Frag} (c : Hq2.Says hS h K) : PySem.W.isFn K (.ref (He.ma K (He.ga K "Course") "recurrence")) = true := id (c.fact 203 rfl)
theorem h_kp_Course_recurrence {h : Heap} {K : PySem.W.Frag} (c : Hq2.Says hS h K) : PySem.W.keepIn K (.ref (He.ma K (He.ga K "Course") "recurrence")) = true := id (c.fact 204 rfl)
theorem h_at_check_gain {h : Heap} {K : PySem.W.Frag} (c : Hq2.Says hS h K) : PySem.W.nsIn K mainGlobals "check_gain" = some (some (.ref (He.ga K "check_gain"))) := He.eqO_ok (c.fact 205 rfl)
theorem h_kp_check_gain {h : Heap} {K : PySem.W.Frag} (c : Hq2.Says hS h K) : PySem.W.keepIn K (.ref (He.ga K "check_gain")) = true := id (c.fact 206 rfl)
theorem h_at_can_be_thresholds {h : Heap} {K : PySem.W.Frag} (c : Hq2.Says hS h K) : PySem.W.nsIn K mainGlobals "can_be_thresholds" = some (some (.ref (He.ga K "can_be_thresholds"))) := He.eqO_ok (c.fact 207 rfl)
theorem h_kp_can_be_thresholds {h : Heap} {K : PySem.W.Frag} (c : Hq2.Says hS h K) : PySem.W.keepIn K (.ref (He.ga K "can_be_thresholds")) = true := id (c.fact 208 rfl)
theorem h_at_Heater_init {h : Heap} {K : PySem.W.Frag} (c : Hq2.Says hS h K) : PySem.W.findIn K (.ref (He.ga K "Heater")) "__init__" = some (some (.ref (He.ma K (He.ga K "Heater") "__init__"))) := He.eqO_ok (c.fact 209 rfl)
theorem h_fn_Heater_init {h : Heap} {K : PySem.W.Frag} (c : Hq2.Says hS h K) : PySem.W.isFn K (.ref (He.ma K (He.ga K "Heater") "__init__")) = true := id (c.fact 210 rfl)
theorem h_kp_Heater_init {h : Heap} {K : PySem.W.Frag} (c : Hq2.Says hS h K) : PySem.W.keepIn K (.ref (He.ma K (He.ga K "Heater") "__init__")) = true := id (c.fact 211 rfl)
theorem h_mk_Heater {h : Heap} {K : PySem.W.Frag} (c : Hq2.Says hS h K) : PySem.W.makesIn K (He.ga K "Heater") = true := id (c.fact 212 rfl)
theorem h_kc_Heater {h : Heap} {K : PySem.W.Frag} (c : Hq2.Says hS h K) : PySem.W.keepIn K (.ref (He.ga K "Heater")) = true := id (c.fact 213 rfl)
theorem h_at_Room_init {h : Heap} {K : PySem.W.Frag} (c : Hq2.Says hS h K) : PySem.W.findIn K (.ref (He.ga K "Room")) "__init__" = some (some (.ref (He.ma K (He.ga K "Room") "__init__"))) := He.eqO_ok (c.fact 214 rfl)
theorem h_fn_Room_init {h : Heap} {K : PySem.W.Frag} (c : Hq2.Says hS h K) : PySem.W.isFn K (.ref (He.ma K (He.ga K "Room") "__init__")) = true := id (c.fact 215 rfl)
theorem h_kp_Room_init {h : Heap} {K : PySem.W.Frag} (c : Hq2.Says hS h K) : PySem.W.keepIn K (.ref (He.ma K (He.ga K "Room") "__init__")) = true := id (c.fact 216 rfl)
theorem h_kd_Room_init {h : Heap} {K : PySem.W.Frag} (c : Hq2.Says hS h K) : PySem.W.nsIn K (Hq.kwA K (He.ma K (He.ga K "Room") "__init__")) "on" = some (some (.bool false)) := He.eqO_ok (c.fact 217 rfl)
theorem h_mk_Room {h : Heap} {K : PySem.W.Frag} (c : Hq2.Says hS h K) : PySem.W.makesIn K (He.ga K "Room") = true := id (c.fact 218 rfl)
theorem h_kc_Room {h : Heap} {K : PySem.W.Frag} (c : Hq2.Says hS h K) : PySem.W.keepIn K (.ref (He.ga K "Room")) = true := id (c.fact 219 rfl)
theorem h_at_Room_is_on {h : Heap} {K : PySem.W.Frag} (c : Hq2.Says hS h K) : PySem.W.findIn K (.ref (He.ga K "Room")) "is_on" = some (some (.ref (He.ma K (He.ga K "Room") "is_on"))) := He.eqO_ok (c.fact 220 rfl)
theorem h_fn_Room_is_on {h : Heap} {K : PySem.W.Frag} (c : Hq2.Says hS h K) : PySem.W.isFn K (.ref (He.ma K (He.ga K "Room") "is_on")) = true := id (c.fact 221 rfl)
theorem h_kp_Room_is_on {h : Heap} {K : PySem.W.Frag} (c : Hq2.Says hS h K) : PySem.W.keepIn K (.ref (He.ma K (He.ga K "Room") "is_on")) = true := id (c.fact 222 rfl)
theorem h_at_Room_heating_ticks {h : Heap} {K : PySem.W.Frag} (c : Hq2.Says hS h K) : PySem.W.findIn K (.ref (He.ga K "Room")) "heating_ticks" = some (some (.ref (He.ma K (He.ga K "Room") "heating_ticks"))) := He.eqO_ok (c.fact 223 rfl)
theorem h_fn_Room_heating_ticks {h : Heap} {K : PySem.W.Frag} (c : Hq2.Says hS h K) : PySem.W.isFn K (.ref (He.ma K (He.ga K "Room") "heating_ticks")) = true := id (c.fact 224 rfl)
theorem h_kp_Room_heating_ticks {h : Heap} {K : PySem.W.Frag} (c : Hq2.Says hS h K) : PySem.W.keepIn K (.ref (He.ma K (He.ga K "Room") "heating_ticks")) = true := id (c.fact 225 rfl)
theorem h_at__law_start {h : Heap} {K : PySem.W.Frag} (c : Hq2.Says hS h K) : PySem.W.nsIn K mainGlobals "_law_start" = some (some (.ref (He.ga K "_law_start"))) := He.eqO_ok (c.fact 226 rfl)
theorem h_kp__law_start {h : Heap} {K : PySem.W.Frag} (c : Hq2.Says hS h K) : PySem.W.keepIn K (.ref (He.ga K "_law_start")) = true := id (c.fact 227 rfl)
theorem h_at__law_drawn {h : Heap} {K : PySem.W.Frag} (c : Hq2.Says hS h K) : PySem.W.nsIn K mainGlobals "_law_drawn" = some (some (.ref (He.ga K "_law_drawn"))) := He.eqO_ok (c.fact 228 rfl)
theorem h_kp__law_drawn {h : Heap} {K : PySem.W.Frag} (c : Hq2.Says hS h K) : PySem.W.keepIn K (.ref (He.ga K "_law_drawn")) = true := id (c.fact 229 rfl)
theorem h_at__law_changes {h : Heap} {K : PySem.W.Frag} (c : Hq2.Says hS h K) : PySem.W.nsIn K mainGlobals "_law_changes" = some (some (.ref (He.ga K "_law_changes"))) := He.eqO_ok (c.fact 230 rfl)
theorem h_kp__law_changes {h : Heap} {K : PySem.W.Frag} (c : Hq2.Says hS h K) : PySem.W.keepIn K (.ref (He.ga K "_law_changes")) = true := id (c.fact 231 rfl)
theorem h_at__law_weather {h : Heap} {K : PySem.W.Frag} (c : Hq2.Says hS h K) : PySem.W.nsIn K mainGlobals "_law_weather" = some (some (.ref (He.ga K "_law_weather"))) := He.eqO_ok (c.fact 232 rfl)
theorem h_kp__law_weather {h : Heap} {K : PySem.W.Frag} (c : Hq2.Says hS h K) : PySem.W.keepIn K (.ref (He.ga K "_law_weather")) = true := id (c.fact 233 rfl)
theorem h_at__law_single {h : Heap} {K : PySem.W.Frag} (c : Hq2.Says hS h K) : PySem.W.nsIn K mainGlobals "_law_single" = some (some (.ref (He.ga K "_law_single"))) := He.eqO_ok (c.fact 234 rfl)
theorem h_kp__law_single {h : Heap} {K : PySem.W.Frag} (c : Hq2.Says hS h K) : PySem.W.keepIn K (.ref (He.ga K "_law_single")) = true := id (c.fact 235 rfl)
theorem h_at__law_prices {h : Heap} {K : PySem.W.Frag} (c : Hq2.Says hS h K) : PySem.W.nsIn K mainGlobals "_law_prices" = some (some (.ref (He.ga K "_law_prices"))) := He.eqO_ok (c.fact 236 rfl)
theorem h_kp__law_prices {h : Heap} {K : PySem.W.Frag} (c : Hq2.Says hS h K) : PySem.W.keepIn K (.ref (He.ga K "_law_prices")) = true := id (c.fact 237 rfl)
theorem h_at__law_cents {h : Heap} {K : PySem.W.Frag} (c : Hq2.Says hS h K) : PySem.W.nsIn K mainGlobals "_law_cents" = some (some (.ref (He.ga K "_law_cents"))) := He.eqO_ok (c.fact 238 rfl)
theorem h_kp__law_cents {h : Heap} {K : PySem.W.Frag} (c : Hq2.Says hS h K) : PySem.W.keepIn K (.ref (He.ga K "_law_cents")) = true := id (c.fact 239 rfl)
theorem h_at__law_is_lowest {h : Heap} {K : PySem.W.Frag} (c : Hq2.Says hS h K) : PySem.W.nsIn K mainGlobals "_law_is_lowest" = some (some (.ref (He.ga K "_law_is_lowest"))) := He.eqO_ok (c.fact 240 rfl)
theorem h_kp__law_is_lowest {h : Heap} {K : PySem.W.Frag} (c : Hq2.Says hS h K) : PySem.W.keepIn K (.ref (He.ga K "_law_is_lowest")) = true := id (c.fact 241 rfl)
theorem h_at_law {h : Heap} {K : PySem.W.Frag} (c : Hq2.Says hS h K) : PySem.W.nsIn K mainGlobals "law" = some (some (.ref (He.ga K "law"))) := He.eqO_ok (c.fact 242 rfl)
theorem h_kp_law {h : Heap} {K : PySem.W.Frag} (c : Hq2.Says hS h K) : PySem.W.keepIn K (.ref (He.ga K "law")) = true := id (c.fact 243 rfl)
theorem h_at_Weather_changes {h : Heap} {K : PySem.W.Frag} (c : Hq2.Says hS h K) : PySem.W.findIn K (.ref (He.ga K "Weather")) "changes" = some (some (.ref (He.ma K (He.ga K "Weather") "changes"))) := He.eqO_ok (c.fact 244 rfl)
theorem h_gt_Weather_changes {h : Heap} {K : PySem.W.Frag} (c : Hq2.Says hS h K) : PySem.W.specialIn K (.ref (He.ma K (He.ga K "Weather") "changes")) "__get__" = some (some (.builtin "property.__get__")) := He.eqO_ok (c.fact 245 rfl)
theorem h_tk_Weather_changes {h : Heap} {K : PySem.W.Frag} (c : Hq2.Says hS h K) : PySem.W.takesIn K (.ref (He.ma K (He.ga K "Weather") "changes")) = some true := of_decide_eq_true (c.fact 246 rfl)
theorem h_rc_Weather_changes {h : Heap} {K : PySem.W.Frag} (c : Hq2.Says hS h K) : PySem.W.recIn K (He.ma K (He.ga K "Weather") "changes") "property" = some (.ref (Hq.gtA K (He.ma K (He.ga K "Weather") "changes")) :: Hq.gtR K (He.ma K (He.ga K "Weather") "changes")) := Hq.gtB_ok (c.fact 247 rfl)
theorem h_kp_Weather_changes {h : Heap} {K : PySem.W.Frag} (c : Hq2.Says hS h K) : PySem.W.keepIn K (.ref (Hq.gtA K (He.ma K (He.ga K "Weather") "changes"))) = true := id (c.fact 248 rfl)
theorem h_at_Prices_cents {h : Heap} {K : PySem.W.Frag} (c : Hq2.Says hS h K) : PySem.W.findIn K (.ref (He.ga K "Prices")) "cents" = some (some (.ref (He.ma K (He.ga K "Prices") "cents"))) := He.eqO_ok (c.fact 249 rfl)
theorem h_gt_Prices_cents {h : Heap} {K : PySem.W.Frag} (c : Hq2.Says hS h K) : PySem.W.specialIn K (.ref (He.ma K (He.ga K "Prices") "cents")) "__get__" = some (some (.builtin "property.__get__")) := He.eqO_ok (c.fact 250 rfl)
theorem h_tk_Prices_cents {h : Heap} {K : PySem.W.Frag} (c : Hq2.Says hS h K) : PySem.W.takesIn K (.ref (He.ma K (He.ga K "Prices") "cents")) = some true := of_decide_eq_true (c.fact 251 rfl)
theorem h_rc_Prices_cents {h : Heap} {K : PySem.W.Frag} (c : Hq2.Says hS h K) : PySem.W.recIn K (He.ma K (He.ga K "Prices") "cents") "property" = some (.ref (Hq.gtA K (He.ma K (He.ga K "Prices") "cents")) :: Hq.gtR K (He.ma K (He.ga K "Prices") "cents")) := Hq.gtB_ok (c.fact 252 rfl)
theorem h_kp_Prices_cents {h : Heap} {K : PySem.W.Frag} (c : Hq2.Says hS h K) : PySem.W.keepIn K (.ref (Hq.gtA K (He.ma K (He.ga K "Prices") "cents"))) = true := id (c.fact 253 rfl)
theorem h_at_Heater_gain {h : Heap} {K : PySem.W.Frag} (c : Hq2.Says hS h K) : PySem.W.findIn K (.ref (He.ga K "Heater")) "gain" = some (some (.ref (He.ma K (He.ga K "Heater") "gain"))) := He.eqO_ok (c.fact 254 rfl)
theorem h_gt_Heater_gain {h : Heap} {K : PySem.W.Frag} (c : Hq2.Says hS h K) : PySem.W.specialIn K (.ref (He.ma K (He.ga K "Heater") "gain")) "__get__" = some (some (.builtin "property.__get__")) := He.eqO_ok (c.fact 255 rfl)
theorem h_tk_Heater_gain {h : Heap} {K : PySem.W.Frag} (c : Hq2.Says hS h K) : PySem.W.takesIn K (.ref (He.ma K (He.ga K "Heater") "gain")) = some true := of_decide_eq_true (c.fact 256 rfl)
theorem h_rc_Heater_gain {h : Heap} {K : PySem.W.Frag} (c : Hq2.Says hS h K) : PySem.W.recIn K (He.ma K (He.ga K "Heater") "gain") "property" = some (.ref (Hq.gtA K (He.ma K (He.ga K "Heater") "gain")) :: Hq.gtR K (He.ma K (He.ga K "Heater") "gain")) := Hq.gtB_ok (c.fact 257 rfl)
theorem h_kp_Heater_gain {h : Heap} {K : PySem.W.Frag} (c : Hq2.Says hS h K) : PySem.W.keepIn K (.ref (Hq.gtA K (He.ma K (He.ga K "Heater") "gain"))) = true := id (c.fact 258 rfl)
theorem h_at_Heater_low {h : Heap} {K : PySem.W.Frag} (c : Hq2.Says hS h K) : PySem.W.findIn K (.ref (He.ga K "Heater")) "low" = some (some (.ref (He.ma K (He.ga K "Heater") "low"))) := He.eqO_ok (c.fact 259 rfl)
theorem h_gt_Heater_low {h : Heap} {K : PySem.W.Frag} (c : Hq2.Says hS h K) : PySem.W.specialIn K (.ref (He.ma K (He.ga K "Heater") "low")) "__get__" = some (some (.builtin "property.__get__")) := He.eqO_ok (c.fact 260 rfl)
theorem h_tk_Heater_low {h : Heap} {K : PySem.W.Frag} (c : Hq2.Says hS h K) : PySem.W.takesIn K (.ref (He.ma K (He.ga K "Heater") "low")) = some true := of_decide_eq_true (c.fact 261 rfl)
theorem h_rc_Heater_low {h : Heap} {K : PySem.W.Frag} (c : Hq2.Says hS h K) : PySem.W.recIn K (He.ma K (He.ga K "Heater") "low") "property" = some (.ref (Hq.gtA K (He.ma K (He.ga K "Heater") "low")) :: Hq.gtR K (He.ma K (He.ga K "Heater") "low")) := Hq.gtB_ok (c.fact 262 rfl)
theorem h_kp_Heater_low {h : Heap} {K : PySem.W.Frag} (c : Hq2.Says hS h K) : PySem.W.keepIn K (.ref (Hq.gtA K (He.ma K (He.ga K "Heater") "low"))) = true := id (c.fact 263 rfl)
theorem h_at_Heater_high {h : Heap} {K : PySem.W.Frag} (c : Hq2.Says hS h K) : PySem.W.findIn K (.ref (He.ga K "Heater")) "high" = some (some (.ref (He.ma K (He.ga K "Heater") "high"))) := He.eqO_ok (c.fact 264 rfl)
theorem h_gt_Heater_high {h : Heap} {K : PySem.W.Frag} (c : Hq2.Says hS h K) : PySem.W.specialIn K (.ref (He.ma K (He.ga K "Heater") "high")) "__get__" = some (some (.builtin "property.__get__")) := He.eqO_ok (c.fact 265 rfl)
theorem h_tk_Heater_high {h : Heap} {K : PySem.W.Frag} (c : Hq2.Says hS h K) : PySem.W.takesIn K (.ref (He.ma K (He.ga K "Heater") "high")) = some true := of_decide_eq_true (c.fact 266 rfl)
theorem h_rc_Heater_high {h : Heap} {K : PySem.W.Frag} (c : Hq2.Says hS h K) : PySem.W.recIn K (He.ma K (He.ga K "Heater") "high") "property" = some (.ref (Hq.gtA K (He.ma K (He.ga K "Heater") "high")) :: Hq.gtR K (He.ma K (He.ga K "Heater") "high")) := Hq.gtB_ok (c.fact 267 rfl)
theorem h_kp_Heater_high {h : Heap} {K : PySem.W.Frag} (c : Hq2.Says hS h K) : PySem.W.keepIn K (.ref (Hq.gtA K (He.ma K (He.ga K "Heater") "high"))) = true := id (c.fact 268 rfl)
theorem h_at_Room_repetition {h : Heap} {K : PySem.W.Frag} (c : Hq2.Says hS h K) : PySem.W.findIn K (.ref (He.ga K "Room")) "repetition" = some (some (.ref (He.ma K (He.ga K "Room") "repetition"))) := He.eqO_ok (c.fact 269 rfl)
theorem h_gt_Room_repetition {h : Heap} {K : PySem.W.Frag} (c : Hq2.Says hS h K) : PySem.W.specialIn K (.ref (He.ma K (He.ga K "Room") "repetition")) "__get__" = some (some (.builtin "property.__get__")) := He.eqO_ok (c.fact 270 rfl)
theorem h_tk_Room_repetition {h : Heap} {K : PySem.W.Frag} (c : Hq2.Says hS h K) : PySem.W.takesIn K (.ref (He.ma K (He.ga K "Room") "repetition")) = some true := of_decide_eq_true (c.fact 271 rfl)
theorem h_rc_Room_repetition {h : Heap} {K : PySem.W.Frag} (c : Hq2.Says hS h K) : PySem.W.recIn K (He.ma K (He.ga K "Room") "repetition") "property" = some (.ref (Hq.gtA K (He.ma K (He.ga K "Room") "repetition")) :: Hq.gtR K (He.ma K (He.ga K "Room") "repetition")) := Hq.gtB_ok (c.fact 272 rfl)
theorem h_kp_Room_repetition {h : Heap} {K : PySem.W.Frag} (c : Hq2.Says hS h K) : PySem.W.keepIn K (.ref (Hq.gtA K (He.ma K (He.ga K "Room") "repetition"))) = true := id (c.fact 273 rfl)
theorem h_gl_MOST_TICKS {h : Heap} {K : PySem.W.Frag} (c : Hq2.Says hS h K) : ∃ t, PySem.W.nsIn K mainGlobals "MOST_TICKS" = some (some (.int 1000000000000000000 t)) := Hq.inB_ok (c.fact 274 rfl)
theorem h_gl_MOST_GAIN {h : Heap} {K : PySem.W.Frag} (c : Hq2.Says hS h K) : ∃ t, PySem.W.nsIn K mainGlobals "MOST_GAIN" = some (some (.int 200 t)) := Hq.inB_ok (c.fact 275 rfl)
theorem h_gl_MOST_DEGREES {h : Heap} {K : PySem.W.Frag} (c : Hq2.Says hS h K) : ∃ t, PySem.W.nsIn K mainGlobals "MOST_DEGREES" = some (some (.int 1000000000000 t)) := Hq.inB_ok (c.fact 276 rfl)
theorem h_gl_MOST_BUDGET {h : Heap} {K : PySem.W.Frag} (c : Hq2.Says hS h K) : ∃ t, PySem.W.nsIn K mainGlobals "MOST_BUDGET" = some (some (.int 1000000000000000000000000000000 t)) := Hq.inB_ok (c.fact 277 rfl)
theorem h_gl_gcd {h : Heap} {K : PySem.W.Frag} (c : Hq2.Says hS h K) : PySem.W.nsIn K mainGlobals "gcd" = some (some (.builtin "math.gcd")) := He.eqO_ok (c.fact 278 rfl)
theorem h_gl_lcm {h : Heap} {K : PySem.W.Frag} (c : Hq2.Says hS h K) : PySem.W.nsIn K mainGlobals "lcm" = some (some (.builtin "math.lcm")) := He.eqO_ok (c.fact 279 rfl)
theorem h_z_divmod {h : Heap} {K : PySem.W.Frag} (c : Hq2.Says hS h K) : PySem.W.nsIn K mainGlobals "divmod" = some none := He.eqO_ok (c.fact 280 rfl)
theorem h_z_enumerate {h : Heap} {K : PySem.W.Frag} (c : Hq2.Says hS h K) : PySem.W.nsIn K mainGlobals "enumerate" = some none := He.eqO_ok (c.fact 281 rfl)
theorem h_z_int {h : Heap} {K : PySem.W.Frag} (c : Hq2.Says hS h K) : PySem.W.nsIn K mainGlobals "int" = some none := He.eqO_ok (c.fact 282 rfl)
theorem h_z_len {h : Heap} {K : PySem.W.Frag} (c : Hq2.Says hS h K) : PySem.W.nsIn K mainGlobals "len" = some none := He.eqO_ok (c.fact 283 rfl)
theorem h_z_min {h : Heap} {K : PySem.W.Frag} (c : Hq2.Says hS h K) : PySem.W.nsIn K mainGlobals "min" = some none := He.eqO_ok (c.fact 284 rfl)
theorem h_z_range {h : Heap} {K : PySem.W.Frag} (c : Hq2.Says hS h K) : PySem.W.nsIn K mainGlobals "range" = some none := He.eqO_ok (c.fact 285 rfl)
theorem h_z_sum {h : Heap} {K : PySem.W.Frag} (c : Hq2.Says hS h K) : PySem.W.nsIn K mainGlobals "sum" = some none := He.eqO_ok (c.fact 286 rfl)
theorem h_cv_Prices_MAX_PRICE {h : Heap} {K : PySem.W.Frag} (c : Hq2.Says hS h K) : ∃ t, PySem.W.findIn K (.ref (He.ga K "Prices")) "MAX_PRICE" = some (some (.int 1000000 t)) ∧ PySem.W.specialIn K (.int 1000000 t) "__get__" = some none := Hq.cvB_ok (c.fact 287 rfl)
theorem h_cv_Prices_MAX_TICKS {h : Heap} {K : PySem.W.Frag} (c : Hq2.Says hS h K) : ∃ t, PySem.W.findIn K (.ref (He.ga K "Prices")) "MAX_TICKS" = some (some (.int 24 t)) ∧ PySem.W.specialIn K (.int 24 t) "__get__" = some none := Hq.cvB_ok (c.fact 288 rfl)
theorem h_cv_Weather_MAX_CHANGE {h : Heap} {K : PySem.W.Frag} (c : Hq2.Says hS h K) : ∃ t, PySem.W.findIn K (.ref (He.ga K "Weather")) "MAX_CHANGE" = some (some (.int 100 t)) ∧ PySem.W.specialIn K (.int 100 t) "__get__" = some none := Hq.cvB_ok (c.fact 289 rfl)
theorem h_cv_Weather_MAX_TICKS {h : Heap} {K : PySem.W.Frag} (c : Hq2.Says hS h K) : ∃ t, PySem.W.findIn K (.ref (He.ga K "Weather")) "MAX_TICKS" = some (some (.int 24 t)) ∧ PySem.W.specialIn K (.int 24 t) "__get__" = some none := Hq.cvB_ok (c.fact 290 rfl)
theorem h_wm {h : Heap} {K : PySem.W.Frag} (c : Hq2.Says hS h K) : (wmL K).all id = true := id (c.fact 291 rfl)
theorem h_def_check_number {h : Heap} {K : PySem.W.Frag} (c : Hq2.Says hS h K) : Hq.mo K (He.ga K "check_number") = Hq.mv "check_number" "check_number" s_check_number := c.fn 0 rfl
theorem h_co_check_number {h : Heap} {K : PySem.W.Frag} (c : Hq2.Says hS h K) : Hq.coB K (He.ga K "check_number") "check_number" = true := c.fact 292 rfl
theorem h_def_first_invalid {h : Heap} {K : PySem.W.Frag} (c : Hq2.Says hS h K) : Hq.mo K (He.ga K "first_invalid") = Hq.mv "first_invalid" "first_invalid" s_first_invalid := c.fn 1 rfl
theorem h_co_first_invalid {h : Heap} {K : PySem.W.Frag} (c : Hq2.Says hS h K) : Hq.coB K (He.ga K "first_invalid") "first_invalid" = true := c.fact 293 rfl
theorem h_def_sum_of_first {h : Heap} {K : PySem.W.Frag} (c : Hq2.Says hS h K) : Hq.mo K (He.ga K "sum_of_first") = Hq.mv "sum_of_first" "sum_of_first" s_sum_of_first := c.fn 2 rfl
theorem h_co_sum_of_first {h : Heap} {K : PySem.W.Frag} (c : Hq2.Says hS h K) : Hq.coB K (He.ga K "sum_of_first") "sum_of_first" = true := c.fact 294 rfl
theorem h_def_added_rounds {h : Heap} {K : PySem.W.Frag} (c : Hq2.Says hS h K) : Hq.mo K (He.ga K "added_rounds") = Hq.mv "added_rounds" "added_rounds" s_added_rounds := c.fn 3 rfl
theorem h_co_added_rounds {h : Heap} {K : PySem.W.Frag} (c : Hq2.Says hS h K) : Hq.coB K (He.ga K "added_rounds") "added_rounds" = true := c.fact 295 rfl
theorem h_def_Weather_init {h : Heap} {K : PySem.W.Frag} (c : Hq2.Says hS h K) : Hq.mo K (He.ma K (He.ga K "Weather") "__init__") = Hq.mv "__init__" "Weather.__init__" s_Weather_init := c.fn 4 rfl
theorem h_co_Weather_init {h : Heap} {K : PySem.W.Frag} (c : Hq2.Says hS h K) : Hq.coB K (He.ma K (He.ga K "Weather") "__init__") "Weather.__init__" = true := c.fact 296 rfl
theorem h_def_Weather_len {h : Heap} {K : PySem.W.Frag} (c : Hq2.Says hS h K) : Hq.mo K (He.ma K (He.ga K "Weather") "__len__") = Hq.mv "__len__" "Weather.__len__" s_Weather_len := c.fn 5 rfl
theorem h_co_Weather_len {h : Heap} {K : PySem.W.Frag} (c : Hq2.Says hS h K) : Hq.coB K (He.ma K (He.ga K "Weather") "__len__") "Weather.__len__" = true := c.fact 297 rfl
theorem h_def_Weather_add {h : Heap} {K : PySem.W.Frag} (c : Hq2.Says hS h K) : Hq.mo K (He.ma K (He.ga K "Weather") "__add__") = Hq.mv "__add__" "Weather.__add__" s_Weather_add := c.fn 6 rfl
theorem h_co_Weather_add {h : Heap} {K : PySem.W.Frag} (c : Hq2.Says hS h K) : Hq.coB K (He.ma K (He.ga K "Weather") "__add__") "Weather.__add__" = true := c.fact 298 rfl
theorem h_def_Weather_mul {h : Heap} {K : PySem.W.Frag} (c : Hq2.Says hS h K) : Hq.mo K (He.ma K (He.ga K "Weather") "__mul__") = Hq.mv "__mul__" "Weather.__mul__" s_Weather_mul := c.fn 7 rfl
theorem h_co_Weather_mul {h : Heap} {K : PySem.W.Frag} (c : Hq2.Says hS h K) : Hq.coB K (He.ma K (He.ga K "Weather") "__mul__") "Weather.__mul__" = true := c.fact 299 rfl
theorem h_def_Prices_init {h : Heap} {K : PySem.W.Frag} (c : Hq2.Says hS h K) : Hq.mo K (He.ma K (He.ga K "Prices") "__init__") = Hq.mv "__init__" "Prices.__init__" s_Prices_init := c.fn 8 rfl
theorem h_co_Prices_init {h : Heap} {K : PySem.W.Frag} (c : Hq2.Says hS h K) : Hq.coB K (He.ma K (He.ga K "Prices") "__init__") "Prices.__init__" = true := c.fact 300 rfl
theorem h_def_heating_cost {h : Heap} {K : PySem.W.Frag} (c : Hq2.Says hS h K) : Hq.mo K (He.ga K "heating_cost") = Hq.mv "heating_cost" "heating_cost" s_heating_cost := c.fn 9 rfl
theorem h_co_heating_cost {h : Heap} {K : PySem.W.Frag} (c : Hq2.Says hS h K) : Hq.coB K (He.ga K "heating_cost") "heating_cost" = true := c.fact 301 rfl
theorem h_def_first_over {h : Heap} {K : PySem.W.Frag} (c : Hq2.Says hS h K) : Hq.mo K (He.ga K "first_over") = Hq.mv "first_over" "first_over" s_first_over := c.fn 10 rfl
theorem h_co_first_over {h : Heap} {K : PySem.W.Frag} (c : Hq2.Says hS h K) : Hq.coB K (He.ga K "first_over") "first_over" = true := c.fact 302 rfl
theorem h_def_cost_share {h : Heap} {K : PySem.W.Frag} (c : Hq2.Says hS h K) : Hq.mo K (He.ga K "cost_share") = Hq.mv "cost_share" "cost_share" s_cost_share := c.fn 11 rfl
theorem h_co_cost_share {h : Heap} {K : PySem.W.Frag} (c : Hq2.Says hS h K) : Hq.coB K (He.ga K "cost_share") "cost_share" = true := c.fact 303 rfl
theorem h_def_lowest_terms {h : Heap} {K : PySem.W.Frag} (c : Hq2.Says hS h K) : Hq.mo K (He.ga K "lowest_terms") = Hq.mv "lowest_terms" "lowest_terms" s_lowest_terms := c.fn 12 rfl
theorem h_co_lowest_terms {h : Heap} {K : PySem.W.Frag} (c : Hq2.Says hS h K) : Hq.coB K (He.ga K "lowest_terms") "lowest_terms" = true := c.fact 304 rfl
theorem h_def_Timeline_init {h : Heap} {K : PySem.W.Frag} (c : Hq2.Says hS h K) : Hq.mo K (He.ma K (He.ga K "Timeline") "__init__") = Hq.mv "__init__" "Timeline.__init__" s_Timeline_init := c.fn 13 rfl
theorem h_co_Timeline_init {h : Heap} {K : PySem.W.Frag} (c : Hq2.Says hS h K) : Hq.coB K (He.ma K (He.ga K "Timeline") "__init__") "Timeline.__init__" = true := c.fact 305 rfl
theorem h_def_Timeline_ticks_of_round {h : Heap} {K : PySem.W.Frag} (c : Hq2.Says hS h K) : Hq.mo K (He.ma K (He.ga K "Timeline") "ticks_of_round") = Hq.mv "ticks_of_round" "Timeline.ticks_of_round" s_Timeline_ticks_of_round := c.fn 14 rfl
theorem h_co_Timeline_ticks_of_round {h : Heap} {K : PySem.W.Frag} (c : Hq2.Says hS h K) : Hq.coB K (He.ma K (He.ga K "Timeline") "ticks_of_round") "Timeline.ticks_of_round" = true := c.fact 306 rfl
theorem h_def_Timeline_begin_of {h : Heap} {K : PySem.W.Frag} (c : Hq2.Says hS h K) : Hq.mo K (He.ma K (He.ga K "Timeline") "begin_of") = Hq.mv "begin_of" "Timeline.begin_of" s_Timeline_begin_of := c.fn 15 rfl
theorem h_co_Timeline_begin_of {h : Heap} {K : PySem.W.Frag} (c : Hq2.Says hS h K) : Hq.coB K (He.ma K (He.ga K "Timeline") "begin_of") "Timeline.begin_of" = true := c.fact 307 rfl
theorem h_def_Timeline_place {h : Heap} {K : PySem.W.Frag} (c : Hq2.Says hS h K) : Hq.mo K (He.ma K (He.ga K "Timeline") "place") = Hq.mv "place" "Timeline.place" s_Timeline_place := c.fn 16 rfl
theorem h_co_Timeline_place {h : Heap} {K : PySem.W.Frag} (c : Hq2.Says hS h K) : Hq.coB K (He.ma K (He.ga K "Timeline") "place") "Timeline.place" = true := c.fact 308 rfl
theorem h_def_Timeline_number_at {h : Heap} {K : PySem.W.Frag} (c : Hq2.Says hS h K) : Hq.mo K (He.ma K (He.ga K "Timeline") "_number_at") = Hq.mv "_number_at" "Timeline._number_at" s_Timeline_number_at := c.fn 17 rfl
theorem h_co_Timeline_number_at {h : Heap} {K : PySem.W.Frag} (c : Hq2.Says hS h K) : Hq.coB K (He.ma K (He.ga K "Timeline") "_number_at") "Timeline._number_at" = true := c.fact 309 rfl
theorem h_def_Timeline_in_rounds_of {h : Heap} {K : PySem.W.Frag} (c : Hq2.Says hS h K) : Hq.mo K (He.ma K (He.ga K "Timeline") "in_rounds_of") = Hq.mv "in_rounds_of" "Timeline.in_rounds_of" s_Timeline_in_rounds_of := c.fn 18 rfl
theorem h_co_Timeline_in_rounds_of {h : Heap} {K : PySem.W.Frag} (c : Hq2.Says hS h K) : Hq.coB K (He.ma K (He.ga K "Timeline") "in_rounds_of") "Timeline.in_rounds_of" = true := c.fact 310 rfl
theorem h_def_HeatingSum_init {h : Heap} {K : PySem.W.Frag} (c : Hq2.Says hS h K) : Hq.mo K (He.ma K (He.ga K "HeatingSum") "__init__") = Hq.mv "__init__" "HeatingSum.__init__" s_HeatingSum_init := c.fn 19 rfl
theorem h_co_HeatingSum_init {h : Heap} {K : PySem.W.Frag} (c : Hq2.Says hS h K) : Hq.coB K (He.ma K (He.ga K "HeatingSum") "__init__") "HeatingSum.__init__" = true := c.fact 311 rfl
theorem h_def_HeatingSum_is_on {h : Heap} {K : PySem.W.Frag} (c : Hq2.Says hS h K) : Hq.mo K (He.ma K (He.ga K "HeatingSum") "_is_on") = Hq.mv "_is_on" "HeatingSum._is_on" s_HeatingSum_is_on := c.fn 20 rfl
theorem h_co_HeatingSum_is_on {h : Heap} {K : PySem.W.Frag} (c : Hq2.Says hS h K) : Hq.coB K (He.ma K (He.ga K "HeatingSum") "_is_on") "HeatingSum._is_on" = true := c.fact 312 rfl
theorem h_def_HeatingSum_sum_within {h : Heap} {K : PySem.W.Frag} (c : Hq2.Says hS h K) : Hq.mo K (He.ma K (He.ga K "HeatingSum") "_sum_within") = Hq.mv "_sum_within" "HeatingSum._sum_within" s_HeatingSum_sum_within := c.fn 21 rfl
theorem h_co_HeatingSum_sum_within {h : Heap} {K : PySem.W.Frag} (c : Hq2.Says hS h K) : Hq.coB K (He.ma K (He.ga K "HeatingSum") "_sum_within") "HeatingSum._sum_within" = true := c.fact 313 rfl
theorem h_def_HeatingSum_sum_before {h : Heap} {K : PySem.W.Frag} (c : Hq2.Says hS h K) : Hq.mo K (He.ma K (He.ga K "HeatingSum") "sum_before") = Hq.mv "sum_before" "HeatingSum.sum_before" s_HeatingSum_sum_before := c.fn 22 rfl
theorem h_co_HeatingSum_sum_before {h : Heap} {K : PySem.W.Frag} (c : Hq2.Says hS h K) : Hq.coB K (He.ma K (He.ga K "HeatingSum") "sum_before") "HeatingSum.sum_before" = true := c.fact 314 rfl
theorem h_def_HeatingSum_sum_of_round {h : Heap} {K : PySem.W.Frag} (c : Hq2.Says hS h K) : Hq.mo K (He.ma K (He.ga K "HeatingSum") "_sum_of_round") = Hq.mv "_sum_of_round" "HeatingSum._sum_of_round" s_HeatingSum_sum_of_round := c.fn 23 rfl
theorem h_co_HeatingSum_sum_of_round {h : Heap} {K : PySem.W.Frag} (c : Hq2.Says hS h K) : Hq.coB K (He.ma K (He.ga K "HeatingSum") "_sum_of_round") "HeatingSum._sum_of_round" = true := c.fact 315 rfl
theorem h_def_HeatingSum_share {h : Heap} {K : PySem.W.Frag} (c : Hq2.Says hS h K) : Hq.mo K (He.ma K (He.ga K "HeatingSum") "share") = Hq.mv "share" "HeatingSum.share" s_HeatingSum_share := c.fn 24 rfl
theorem h_co_HeatingSum_share {h : Heap} {K : PySem.W.Frag} (c : Hq2.Says hS h K) : Hq.coB K (He.ma K (He.ga K "HeatingSum") "share") "HeatingSum.share" = true := c.fact 316 rfl
theorem h_def_Drift_init {h : Heap} {K : PySem.W.Frag} (c : Hq2.Says hS h K) : Hq.mo K (He.ma K (He.ga K "Drift") "__init__") = Hq.mv "__init__" "Drift.__init__" s_Drift_init := c.fn 25 rfl
theorem h_co_Drift_init {h : Heap} {K : PySem.W.Frag} (c : Hq2.Says hS h K) : Hq.coB K (He.ma K (He.ga K "Drift") "__init__") "Drift.__init__" = true := c.fact 317 rfl
theorem h_def_Drift_sum_to {h : Heap} {K : PySem.W.Frag} (c : Hq2.Says hS h K) : Hq.mo K (He.ma K (He.ga K "Drift") "sum_to") = Hq.mv "sum_to" "Drift.sum_to" s_Drift_sum_to := c.fn 26 rfl
theorem h_co_Drift_sum_to {h : Heap} {K : PySem.W.Frag} (c : Hq2.Says hS h K) : Hq.coB K (He.ma K (He.ga K "Drift") "sum_to") "Drift.sum_to" = true := c.fact 318 rfl
theorem h_def_both_drifts {h : Heap} {K : PySem.W.Frag} (c : Hq2.Says hS h K) : Hq.mo K (He.ga K "both_drifts") = Hq.mv "both_drifts" "both_drifts" s_both_drifts := c.fn 27 rfl
theorem h_co_both_drifts {h : Heap} {K : PySem.W.Frag} (c : Hq2.Says hS h K) : Hq.coB K (He.ga K "both_drifts") "both_drifts" = true := c.fact 319 rfl
theorem h_def_Stretch_init {h : Heap} {K : PySem.W.Frag} (c : Hq2.Says hS h K) : Hq.mo K (He.ma K (He.ga K "Stretch") "__init__") = Hq.mv "__init__" "Stretch.__init__" s_Stretch_init := c.fn 28 rfl
theorem h_co_Stretch_init {h : Heap} {K : PySem.W.Frag} (c : Hq2.Says hS h K) : Hq.coB K (He.ma K (He.ga K "Stretch") "__init__") "Stretch.__init__" = true := c.fact 320 rfl
theorem h_def_Stretch_degrees_at {h : Heap} {K : PySem.W.Frag} (c : Hq2.Says hS h K) : Hq.mo K (He.ma K (He.ga K "Stretch") "degrees_at") = Hq.mv "degrees_at" "Stretch.degrees_at" s_Stretch_degrees_at := c.fn 29 rfl
theorem h_co_Stretch_degrees_at {h : Heap} {K : PySem.W.Frag} (c : Hq2.Says hS h K) : Hq.coB K (He.ma K (He.ga K "Stretch") "degrees_at") "Stretch.degrees_at" = true := c.fact 321 rfl
theorem h_def_Stretch_begin_state {h : Heap} {K : PySem.W.Frag} (c : Hq2.Says hS h K) : Hq.mo K (He.ma K (He.ga K "Stretch") "begin_state") = Hq.mv "begin_state" "Stretch.begin_state" s_Stretch_begin_state := c.fn 30 rfl
theorem h_co_Stretch_begin_state {h : Heap} {K : PySem.W.Frag} (c : Hq2.Says hS h K) : Hq.coB K (He.ma K (He.ga K "Stretch") "begin_state") "Stretch.begin_state" = true := c.fact 322 rfl
theorem h_def_Stretch_switched {h : Heap} {K : PySem.W.Frag} (c : Hq2.Says hS h K) : Hq.mo K (He.ma K (He.ga K "Stretch") "switched") = Hq.mv "switched" "Stretch.switched" s_Stretch_switched := c.fn 31 rfl
theorem h_co_Stretch_switched {h : Heap} {K : PySem.W.Frag} (c : Hq2.Says hS h K) : Hq.coB K (He.ma K (He.ga K "Stretch") "switched") "Stretch.switched" = true := c.fact 323 rfl
theorem h_def_Stretch_level_ticks {h : Heap} {K : PySem.W.Frag} (c : Hq2.Says hS h K) : Hq.mo K (He.ma K (He.ga K "Stretch") "level_ticks") = Hq.mv "level_ticks" "Stretch.level_ticks" s_Stretch_level_ticks := c.fn 32 rfl
theorem h_co_Stretch_level_ticks {h : Heap} {K : PySem.W.Frag} (c : Hq2.Says hS h K) : Hq.coB K (He.ma K (He.ga K "Stretch") "level_ticks") "Stretch.level_ticks" = true := c.fact 324 rfl
theorem h_def_Stretch_first_beyond {h : Heap} {K : PySem.W.Frag} (c : Hq2.Says hS h K) : Hq.mo K (He.ma K (He.ga K "Stretch") "first_beyond") = Hq.mv "first_beyond" "Stretch.first_beyond" s_Stretch_first_beyond := c.fn 33 rfl
theorem h_co_Stretch_first_beyond {h : Heap} {K : PySem.W.Frag} (c : Hq2.Says hS h K) : Hq.coB K (He.ma K (He.ga K "Stretch") "first_beyond") "Stretch.first_beyond" = true := c.fact 325 rfl
theorem h_def_heater_state {h : Heap} {K : PySem.W.Frag} (c : Hq2.Says hS h K) : Hq.mo K (He.ga K "heater_state") = Hq.mv "heater_state" "heater_state" s_heater_state := c.fn 34 rfl
theorem h_co_heater_state {h : Heap} {K : PySem.W.Frag} (c : Hq2.Says hS h K) : Hq.coB K (He.ga K "heater_state") "heater_state" = true := c.fact 326 rfl
theorem h_def_Course_init {h : Heap} {K : PySem.W.Frag} (c : Hq2.Says hS h K) : Hq.mo K (He.ma K (He.ga K "Course") "__init__") = Hq.mv "__init__" "Course.__init__" s_Course_init := c.fn 35 rfl
theorem h_co_Course_init {h : Heap} {K : PySem.W.Frag} (c : Hq2.Says hS h K) : Hq.coB K (He.ma K (He.ga K "Course") "__init__") "Course.__init__" = true := c.fact 327 rfl
theorem h_def_Course_follow {h : Heap} {K : PySem.W.Frag} (c : Hq2.Says hS h K) : Hq.mo K (He.ma K (He.ga K "Course") "_follow") = Hq.mv "_follow" "Course._follow" s_Course_follow := c.fn 36 rfl
theorem h_co_Course_follow {h : Heap} {K : PySem.W.Frag} (c : Hq2.Says hS h K) : Hq.coB K (He.ma K (He.ga K "Course") "_follow") "Course._follow" = true := c.fact 328 rfl
theorem h_def_Course_end_of {h : Heap} {K : PySem.W.Frag} (c : Hq2.Says hS h K) : Hq.mo K (He.ma K (He.ga K "Course") "_end_of") = Hq.mv "_end_of" "Course._end_of" s_Course_end_of := c.fn 37 rfl
theorem h_co_Course_end_of {h : Heap} {K : PySem.W.Frag} (c : Hq2.Says hS h K) : Hq.coB K (He.ma K (He.ga K "Course") "_end_of") "Course._end_of" = true := c.fact 329 rfl
theorem h_def_Course_on_in {h : Heap} {K : PySem.W.Frag} (c : Hq2.Says hS h K) : Hq.mo K (He.ma K (He.ga K "Course") "on_in") = Hq.mv "on_in" "Course.on_in" s_Course_on_in := c.fn 38 rfl
theorem h_co_Course_on_in {h : Heap} {K : PySem.W.Frag} (c : Hq2.Says hS h K) : Hq.coB K (He.ma K (He.ga K "Course") "on_in") "Course.on_in" = true := c.fact 330 rfl
theorem h_def_Course_heating_sum {h : Heap} {K : PySem.W.Frag} (c : Hq2.Says hS h K) : Hq.mo K (He.ma K (He.ga K "Course") "heating_sum") = Hq.mv "heating_sum" "Course.heating_sum" s_Course_heating_sum := c.fn 39 rfl
theorem h_co_Course_heating_sum {h : Heap} {K : PySem.W.Frag} (c : Hq2.Says hS h K) : Hq.coB K (He.ma K (He.ga K "Course") "heating_sum") "Course.heating_sum" = true := c.fact 331 rfl
theorem h_def_Course_heated_before {h : Heap} {K : PySem.W.Frag} (c : Hq2.Says hS h K) : Hq.mo K (He.ma K (He.ga K "Course") "heated_before") = Hq.mv "heated_before" "Course.heated_before" s_Course_heated_before := c.fn 40 rfl
theorem h_co_Course_heated_before {h : Heap} {K : PySem.W.Frag} (c : Hq2.Says hS h K) : Hq.coB K (He.ma K (He.ga K "Course") "heated_before") "Course.heated_before" = true := c.fact 332 rfl
theorem h_def_Course_recurrence {h : Heap} {K : PySem.W.Frag} (c : Hq2.Says hS h K) : Hq.mo K (He.ma K (He.ga K "Course") "recurrence") = Hq.mv "recurrence" "Course.recurrence" s_Course_recurrence := c.fn 41 rfl
theorem h_co_Course_recurrence {h : Heap} {K : PySem.W.Frag} (c : Hq2.Says hS h K) : Hq.coB K (He.ma K (He.ga K "Course") "recurrence") "Course.recurrence" = true := c.fact 333 rfl
theorem h_def_check_gain {h : Heap} {K : PySem.W.Frag} (c : Hq2.Says hS h K) : Hq.mo K (He.ga K "check_gain") = Hq.mv "check_gain" "check_gain" s_check_gain := c.fn 42 rfl
theorem h_co_check_gain {h : Heap} {K : PySem.W.Frag} (c : Hq2.Says hS h K) : Hq.coB K (He.ga K "check_gain") "check_gain" = true := c.fact 334 rfl
theorem h_def_can_be_thresholds {h : Heap} {K : PySem.W.Frag} (c : Hq2.Says hS h K) : Hq.mo K (He.ga K "can_be_thresholds") = Hq.mv "can_be_thresholds" "can_be_thresholds" s_can_be_thresholds := c.fn 43 rfl
theorem h_co_can_be_thresholds {h : Heap} {K : PySem.W.Frag} (c : Hq2.Says hS h K) : Hq.coB K (He.ga K "can_be_thresholds") "can_be_thresholds" = true := c.fact 335 rfl
theorem h_def_Heater_init {h : Heap} {K : PySem.W.Frag} (c : Hq2.Says hS h K) : Hq.mo K (He.ma K (He.ga K "Heater") "__init__") = Hq.mv "__init__" "Heater.__init__" s_Heater_init := c.fn 44 rfl
theorem h_co_Heater_init {h : Heap} {K : PySem.W.Frag} (c : Hq2.Says hS h K) : Hq.coB K (He.ma K (He.ga K "Heater") "__init__") "Heater.__init__" = true := c.fact 336 rfl
theorem h_def_Room_init {h : Heap} {K : PySem.W.Frag} (c : Hq2.Says hS h K) : Hq.mo K (He.ma K (He.ga K "Room") "__init__") = Hq.mv "__init__" "Room.__init__" s_Room_init := c.fn 45 rfl
theorem h_co_Room_init {h : Heap} {K : PySem.W.Frag} (c : Hq2.Says hS h K) : Hq.coB K (He.ma K (He.ga K "Room") "__init__") "Room.__init__" = true := c.fact 337 rfl
theorem h_kw_Room_init {h : Heap} {K : PySem.W.Frag} (c : Hq2.Says hS h K) : Hq.kwB K (He.ma K (He.ga K "Room") "__init__") = true := c.fact 338 rfl
theorem h_def_Room_is_on {h : Heap} {K : PySem.W.Frag} (c : Hq2.Says hS h K) : Hq.mo K (He.ma K (He.ga K "Room") "is_on") = Hq.mv "is_on" "Room.is_on" s_Room_is_on := c.fn 46 rfl
theorem h_co_Room_is_on {h : Heap} {K : PySem.W.Frag} (c : Hq2.Says hS h K) : Hq.coB K (He.ma K (He.ga K "Room") "is_on") "Room.is_on" = true := c.fact 339 rfl
theorem h_def_Room_heating_ticks {h : Heap} {K : PySem.W.Frag} (c : Hq2.Says hS h K) : Hq.mo K (He.ma K (He.ga K "Room") "heating_ticks") = Hq.mv "heating_ticks" "Room.heating_ticks" s_Room_heating_ticks := c.fn 47 rfl
theorem h_co_Room_heating_ticks {h : Heap} {K : PySem.W.Frag} (c : Hq2.Says hS h K) : Hq.coB K (He.ma K (He.ga K "Room") "heating_ticks") "Room.heating_ticks" = true := c.fact 340 rfl
theorem h_def__law_start {h : Heap} {K : PySem.W.Frag} (c : Hq2.Says hS h K) : Hq.mo K (He.ga K "_law_start") = Hq.mv "_law_start" "_law_start" s__law_start := c.fn 48 rfl
theorem h_co__law_start {h : Heap} {K : PySem.W.Frag} (c : Hq2.Says hS h K) : Hq.coB K (He.ga K "_law_start") "_law_start" = true := c.fact 341 rfl
theorem h_def__law_drawn {h : Heap} {K : PySem.W.Frag} (c : Hq2.Says hS h K) : Hq.mo K (He.ga K "_law_drawn") = Hq.mv "_law_drawn" "_law_drawn" s__law_drawn := c.fn 49 rfl
theorem h_co__law_drawn {h : Heap} {K : PySem.W.Frag} (c : Hq2.Says hS h K) : Hq.coB K (He.ga K "_law_drawn") "_law_drawn" = true := c.fact 342 rfl
theorem h_def__law_changes {h : Heap} {K : PySem.W.Frag} (c : Hq2.Says hS h K) : Hq.mo K (He.ga K "_law_changes") = Hq.mv "_law_changes" "_law_changes" s__law_changes := c.fn 50 rfl
theorem h_co__law_changes {h : Heap} {K : PySem.W.Frag} (c : Hq2.Says hS h K) : Hq.coB K (He.ga K "_law_changes") "_law_changes" = true := c.fact 343 rfl
theorem h_def__law_weather {h : Heap} {K : PySem.W.Frag} (c : Hq2.Says hS h K) : Hq.mo K (He.ga K "_law_weather") = Hq.mv "_law_weather" "_law_weather" s__law_weather := c.fn 51 rfl
theorem h_co__law_weather {h : Heap} {K : PySem.W.Frag} (c : Hq2.Says hS h K) : Hq.coB K (He.ga K "_law_weather") "_law_weather" = true := c.fact 344 rfl
theorem h_def__law_single {h : Heap} {K : PySem.W.Frag} (c : Hq2.Says hS h K) : Hq.mo K (He.ga K "_law_single") = Hq.mv "_law_single" "_law_single" s__law_single := c.fn 52 rfl
theorem h_co__law_single {h : Heap} {K : PySem.W.Frag} (c : Hq2.Says hS h K) : Hq.coB K (He.ga K "_law_single") "_law_single" = true := c.fact 345 rfl
theorem h_def__law_prices {h : Heap} {K : PySem.W.Frag} (c : Hq2.Says hS h K) : Hq.mo K (He.ga K "_law_prices") = Hq.mv "_law_prices" "_law_prices" s__law_prices := c.fn 53 rfl
theorem h_co__law_prices {h : Heap} {K : PySem.W.Frag} (c : Hq2.Says hS h K) : Hq.coB K (He.ga K "_law_prices") "_law_prices" = true := c.fact 346 rfl
theorem h_def__law_cents {h : Heap} {K : PySem.W.Frag} (c : Hq2.Says hS h K) : Hq.mo K (He.ga K "_law_cents") = Hq.mv "_law_cents" "_law_cents" s__law_cents := c.fn 54 rfl
theorem h_co__law_cents {h : Heap} {K : PySem.W.Frag} (c : Hq2.Says hS h K) : Hq.coB K (He.ga K "_law_cents") "_law_cents" = true := c.fact 347 rfl
theorem h_def__law_is_lowest {h : Heap} {K : PySem.W.Frag} (c : Hq2.Says hS h K) : Hq.mo K (He.ga K "_law_is_lowest") = Hq.mv "_law_is_lowest" "_law_is_lowest" s__law_is_lowest := c.fn 55 rfl
theorem h_co__law_is_lowest {h : Heap} {K : PySem.W.Frag} (c : Hq2.Says hS h K) : Hq.coB K (He.ga K "_law_is_lowest") "_law_is_lowest" = true := c.fact 348 rfl
theorem h_def_law {h : Heap} {K : PySem.W.Frag} (c : Hq2.Says hS h K) : Hq.mo K (He.ga K "law") = Hq.mv "law" "law" s_law := c.fn 56 rfl
theorem h_co_law {h : Heap} {K : PySem.W.Frag} (c : Hq2.Says hS h K) : Hq.coB K (He.ga K "law") "law" = true := c.fact 349 rfl
theorem h_def_Weather_changes {h : Heap} {K : PySem.W.Frag} (c : Hq2.Says hS h K) : Hq.mo K (Hq.gtA K (He.ma K (He.ga K "Weather") "changes")) = Hq.mv "changes" "Weather.changes" s_Weather_changes := c.fn 57 rfl
theorem h_co_Weather_changes {h : Heap} {K : PySem.W.Frag} (c : Hq2.Says hS h K) : Hq.coB K (Hq.gtA K (He.ma K (He.ga K "Weather") "changes")) "Weather.changes" = true := c.fact 350 rfl
theorem h_def_Prices_cents {h : Heap} {K : PySem.W.Frag} (c : Hq2.Says hS h K) : Hq.mo K (Hq.gtA K (He.ma K (He.ga K "Prices") "cents")) = Hq.mv "cents" "Prices.cents" s_Prices_cents := c.fn 58 rfl
theorem h_co_Prices_cents {h : Heap} {K : PySem.W.Frag} (c : Hq2.Says hS h K) : Hq.coB K (Hq.gtA K (He.ma K (He.ga K "Prices") "cents")) "Prices.cents" = true := c.fact 351 rfl
theorem h_def_Heater_gain {h : Heap} {K : PySem.W.Frag} (c : Hq2.Says hS h K) : Hq.mo K (Hq.gtA K (He.ma K (He.ga K "Heater") "gain")) = Hq.mv "gain" "Heater.gain" s_Heater_gain := c.fn 59 rfl
theorem h_co_Heater_gain {h : Heap} {K : PySem.W.Frag} (c : Hq2.Says hS h K) : Hq.coB K (Hq.gtA K (He.ma K (He.ga K "Heater") "gain")) "Heater.gain" = true := c.fact 352 rfl
theorem h_def_Heater_low {h : Heap} {K : PySem.W.Frag} (c : Hq2.Says hS h K) : Hq.mo K (Hq.gtA K (He.ma K (He.ga K "Heater") "low")) = Hq.mv "low" "Heater.low" s_Heater_low := c.fn 60 rfl
theorem h_co_Heater_low {h : Heap} {K : PySem.W.Frag} (c : Hq2.Says hS h K) : Hq.coB K (Hq.gtA K (He.ma K (He.ga K "Heater") "low")) "Heater.low" = true := c.fact 353 rfl
theorem h_def_Heater_high {h : Heap} {K : PySem.W.Frag} (c : Hq2.Says hS h K) : Hq.mo K (Hq.gtA K (He.ma K (He.ga K "Heater") "high")) = Hq.mv "high" "Heater.high" s_Heater_high := c.fn 61 rfl
theorem h_co_Heater_high {h : Heap} {K : PySem.W.Frag} (c : Hq2.Says hS h K) : Hq.coB K (Hq.gtA K (He.ma K (He.ga K "Heater") "high")) "Heater.high" = true := c.fact 354 rfl
theorem h_def_Room_repetition {h : Heap} {K : PySem.W.Frag} (c : Hq2.Says hS h K) : Hq.mo K (Hq.gtA K (He.ma K (He.ga K "Room") "repetition")) = Hq.mv "repetition" "Room.repetition" s_Room_repetition := c.fn 62 rfl
theorem h_co_Room_repetition {h : Heap} {K : PySem.W.Frag} (c : Hq2.Says hS h K) : Hq.coB K (Hq.gtA K (He.ma K (He.ga K "Room") "repetition")) "Room.repetition" = true := c.fact 355 rfl
set_option maxHeartbeats 0 in
theorem hfacts {w : World} {K : PySem.W.Frag} {h : Heap} {mg : Str → Option Value} {fa : Addr} (X : K.In h) (G : h.Ns mainGlobals mg) (hfa : mg ("law" : Str) = some (.ref fa)) (c : Hq2.Says hS h K) : LamX.LawAtS PySem.Challenge.rw_warmswitch_k45_whole_far_costs w K L2.CX0 11 63 "_law_script" mg fa h := by
  have ns_Weather := h_ns_Weather c
  have pg_Weather := h_pg_Weather c
  have hd_Weather := h_hd_Weather c
  have po_Weather := h_po_Weather c
  have sa_Weather := h_sa_Weather c
  have na_Weather__changes := h_na_Weather__changes c
  have ns_Prices := h_ns_Prices c
  have pg_Prices := h_pg_Prices c
  have hd_Prices := h_hd_Prices c
  have po_Prices := h_po_Prices c
  have sa_Prices := h_sa_Prices c
  have na_Prices__cents := h_na_Prices__cents c
  have ns_Timeline := h_ns_Timeline c
  have pg_Timeline := h_pg_Timeline c
  have hd_Timeline := h_hd_Timeline c
  have po_Timeline := h_po_Timeline c
  have sa_Timeline := h_sa_Timeline c
  have na_Timeline_back := h_na_Timeline_back c
  have na_Timeline_last := h_na_Timeline_last c
  have na_Timeline__begins := h_na_Timeline__begins c
  have ns_HeatingSum := h_ns_HeatingSum c
  have pg_HeatingSum := h_pg_HeatingSum c
  have hd_HeatingSum := h_hd_HeatingSum c
  have po_HeatingSum := h_po_HeatingSum c
  have sa_HeatingSum := h_sa_HeatingSum c
  have na_HeatingSum__on := h_na_HeatingSum__on c
  have na_HeatingSum__amounts := h_na_HeatingSum__amounts c
  have na_HeatingSum__timeline := h_na_HeatingSum__timeline c
  have na_HeatingSum__sums := h_na_HeatingSum__sums c
  have ns_Drift := h_ns_Drift c
  have pg_Drift := h_pg_Drift c
  have hd_Drift := h_hd_Drift c
  have po_Drift := h_po_Drift c
  have sa_Drift := h_sa_Drift c
  have na_Drift_round_ticks := h_na_Drift_round_ticks c
  have na_Drift_round_sum := h_na_Drift_round_sum c
  have na_Drift__sums := h_na_Drift__sums c
  have ns_Stretch := h_ns_Stretch c
  have pg_Stretch := h_pg_Stretch c
  have hd_Stretch := h_hd_Stretch c
  have po_Stretch := h_po_Stretch c
  have sa_Stretch := h_sa_Stretch c
  have na_Stretch_on := h_na_Stretch_on c
  have na_Stretch_begin := h_na_Stretch_begin c
  have na_Stretch__drifts := h_na_Stretch__drifts c
  have na_Stretch__drift := h_na_Stretch__drift c
  have na_Stretch__base := h_na_Stretch__base c
  have ns_Course := h_ns_Course c
  have pg_Course := h_pg_Course c
  have hd_Course := h_hd_Course c
  have po_Course := h_po_Course c
  have sa_Course := h_sa_Course c
  have na_Course__low := h_na_Course__low c
  have na_Course__high := h_na_Course__high c
  have na_Course__stretches := h_na_Course__stretches c
  have na_Course__timeline := h_na_Course__timeline c
  have na_Course__heating := h_na_Course__heating c
  have ns_Heater := h_ns_Heater c
  have pg_Heater := h_pg_Heater c
  have hd_Heater := h_hd_Heater c
  have po_Heater := h_po_Heater c
  have sa_Heater := h_sa_Heater c
  have na_Heater__gain := h_na_Heater__gain c
  have na_Heater__low := h_na_Heater__low c
  have na_Heater__high := h_na_Heater__high c
  have ns_Room := h_ns_Room c
  have pg_Room := h_pg_Room c
  have hd_Room := h_hd_Room c
  have po_Room := h_po_Room c
  have sa_Room := h_sa_Room c
  have na_Room__weather := h_na_Room__weather c
  have na_Room__heater := h_na_Room__heater c
  have na_Room__start := h_na_Room__start c
  have na_Room_course := h_na_Room_course c
  have na_Room__unswitched := h_na_Room__unswitched c
  have at_check_number := h_at_check_number c
  have kp_check_number := h_kp_check_number c
  have at_first_invalid := h_at_first_invalid c
  have kp_first_invalid := h_kp_first_invalid c
  have at_sum_of_first := h_at_sum_of_first c
  have kp_sum_of_first := h_kp_sum_of_first c
  have at_added_rounds := h_at_added_rounds c
  have kp_added_rounds := h_kp_added_rounds c
  have at_Weather_init := h_at_Weather_init c
  have fn_Weather_init := h_fn_Weather_init c
  have kp_Weather_init := h_kp_Weather_init c
  have mk_Weather := h_mk_Weather c
  have kc_Weather := h_kc_Weather c
  have at_Weather_len := h_at_Weather_len c
  have fn_Weather_len := h_fn_Weather_len c
  have kp_Weather_len := h_kp_Weather_len c
  have at_Weather_add := h_at_Weather_add c
  have fn_Weather_add := h_fn_Weather_add c
  have kp_Weather_add := h_kp_Weather_add c
  have at_Weather_mul := h_at_Weather_mul c
  have fn_Weather_mul := h_fn_Weather_mul c
  have kp_Weather_mul := h_kp_Weather_mul c
  have at_Prices_init := h_at_Prices_init c
  have fn_Prices_init := h_fn_Prices_init c
  have kp_Prices_init := h_kp_Prices_init c
  have mk_Prices := h_mk_Prices c
  have kc_Prices := h_kc_Prices c
  have at_heating_cost := h_at_heating_cost c
  have kp_heating_cost := h_kp_heating_cost c
  have at_first_over := h_at_first_over c
  have kp_first_over := h_kp_first_over c
  have at_cost_share := h_at_cost_share c
  have kp_cost_share := h_kp_cost_share c
  have at_lowest_terms := h_at_lowest_terms c
  have kp_lowest_terms := h_kp_lowest_terms c
  have at_Timeline_init := h_at_Timeline_init c
  have fn_Timeline_init := h_fn_Timeline_init c
  have kp_Timeline_init := h_kp_Timeline_init c
  have mk_Timeline := h_mk_Timeline c
  have kc_Timeline := h_kc_Timeline c
  have at_Timeline_ticks_of_round := h_at_Timeline_ticks_of_round c
  have fn_Timeline_ticks_of_round := h_fn_Timeline_ticks_of_round c
  have kp_Timeline_ticks_of_round := h_kp_Timeline_ticks_of_round c
  have at_Timeline_begin_of := h_at_Timeline_begin_of c
  have fn_Timeline_begin_of := h_fn_Timeline_begin_of c
  have kp_Timeline_begin_of := h_kp_Timeline_begin_of c
  have at_Timeline_place := h_at_Timeline_place c
  have fn_Timeline_place := h_fn_Timeline_place c
  have kp_Timeline_place := h_kp_Timeline_place c
  have at_Timeline_number_at := h_at_Timeline_number_at c
  have fn_Timeline_number_at := h_fn_Timeline_number_at c
  have kp_Timeline_number_at := h_kp_Timeline_number_at c
  have at_Timeline_in_rounds_of := h_at_Timeline_in_rounds_of c
  have fn_Timeline_in_rounds_of := h_fn_Timeline_in_rounds_of c
  have kp_Timeline_in_rounds_of := h_kp_Timeline_in_rounds_of c
  have at_HeatingSum_init := h_at_HeatingSum_init c
  have fn_HeatingSum_init := h_fn_HeatingSum_init c
  have kp_HeatingSum_init := h_kp_HeatingSum_init c
  have mk_HeatingSum := h_mk_HeatingSum c
  have kc_HeatingSum := h_kc_HeatingSum c
  have at_HeatingSum_is_on := h_at_HeatingSum_is_on c
  have fn_HeatingSum_is_on := h_fn_HeatingSum_is_on c
  have kp_HeatingSum_is_on := h_kp_HeatingSum_is_on c
  have at_HeatingSum_sum_within := h_at_HeatingSum_sum_within c
  have fn_HeatingSum_sum_within := h_fn_HeatingSum_sum_within c
  have kp_HeatingSum_sum_within := h_kp_HeatingSum_sum_within c
  have at_HeatingSum_sum_before := h_at_HeatingSum_sum_before c
  have fn_HeatingSum_sum_before := h_fn_HeatingSum_sum_before c
  have kp_HeatingSum_sum_before := h_kp_HeatingSum_sum_before c
  have at_HeatingSum_sum_of_round := h_at_HeatingSum_sum_of_round c
  have fn_HeatingSum_sum_of_round := h_fn_HeatingSum_sum_of_round c
  have kp_HeatingSum_sum_of_round := h_kp_HeatingSum_sum_of_round c
  have at_HeatingSum_share := h_at_HeatingSum_share c
  have fn_HeatingSum_share := h_fn_HeatingSum_share c
  have kp_HeatingSum_share := h_kp_HeatingSum_share c
  have at_Drift_init := h_at_Drift_init c
  have fn_Drift_init := h_fn_Drift_init c
  have kp_Drift_init := h_kp_Drift_init c
  have mk_Drift := h_mk_Drift c
  have kc_Drift := h_kc_Drift c
  have at_Drift_sum_to := h_at_Drift_sum_to c
  have fn_Drift_sum_to := h_fn_Drift_sum_to c
  have kp_Drift_sum_to := h_kp_Drift_sum_to c
  have at_both_drifts := h_at_both_drifts c
  have kp_both_drifts := h_kp_both_drifts c
  have at_Stretch_init := h_at_Stretch_init c
  have fn_Stretch_init := h_fn_Stretch_init c
  have kp_Stretch_init := h_kp_Stretch_init c
  have mk_Stretch := h_mk_Stretch c
  have kc_Stretch := h_kc_Stretch c
  have at_Stretch_degrees_at := h_at_Stretch_degrees_at c
  have fn_Stretch_degrees_at := h_fn_Stretch_degrees_at c
  have kp_Stretch_degrees_at := h_kp_Stretch_degrees_at c
  have at_Stretch_begin_state := h_at_Stretch_begin_state c
  have fn_Stretch_begin_state := h_fn_Stretch_begin_state c
  have kp_Stretch_begin_state := h_kp_Stretch_begin_state c
  have at_Stretch_switched := h_at_Stretch_switched c
  have fn_Stretch_switched := h_fn_Stretch_switched c
  have kp_Stretch_switched := h_kp_Stretch_switched c
  have at_Stretch_level_ticks := h_at_Stretch_level_ticks c
  have fn_Stretch_level_ticks := h_fn_Stretch_level_ticks c
  have kp_Stretch_level_ticks := h_kp_Stretch_level_ticks c
  have at_Stretch_first_beyond := h_at_Stretch_first_beyond c
  have fn_Stretch_first_beyond := h_fn_Stretch_first_beyond c
  have kp_Stretch_first_beyond := h_kp_Stretch_first_beyond c
  have at_heater_state := h_at_heater_state c
  have kp_heater_state := h_kp_heater_state c
  have at_Course_init := h_at_Course_init c
  have fn_Course_init := h_fn_Course_init c
  have kp_Course_init := h_kp_Course_init c
  have mk_Course := h_mk_Course c
  have kc_Course := h_kc_Course c
  have at_Course_follow := h_at_Course_follow c
  have fn_Course_follow := h_fn_Course_follow c
  have kp_Course_follow := h_kp_Course_follow c
  have at_Course_end_of := h_at_Course_end_of c
  have fn_Course_end_of := h_fn_Course_end_of c
  have kp_Course_end_of := h_kp_Course_end_of c
  have at_Course_on_in := h_at_Course_on_in c
  have fn_Course_on_in := h_fn_Course_on_in c
  have kp_Course_on_in := h_kp_Course_on_in c
  have at_Course_heating_sum := h_at_Course_heating_sum c
  have fn_Course_heating_sum := h_fn_Course_heating_sum c
  have kp_Course_heating_sum := h_kp_Course_heating_sum c
  have at_Course_heated_before := h_at_Course_heated_before c
  have fn_Course_heated_before := h_fn_Course_heated_before c
  have kp_Course_heated_before := h_kp_Course_heated_before c
  have at_Course_recurrence := h_at_Course_recurrence c
  have fn_Course_recurrence := h_fn_Course_recurrence c
  have kp_Course_recurrence := h_kp_Course_recurrence c
  have at_check_gain := h_at_check_gain c
  have kp_check_gain := h_kp_check_gain c
  have at_can_be_thresholds := h_at_can_be_thresholds c
  have kp_can_be_thresholds := h_kp_can_be_thresholds c
  have at_Heater_init := h_at_Heater_init c
  have fn_Heater_init := h_fn_Heater_init c
  have kp_Heater_init := h_kp_Heater_init c
  have mk_Heater := h_mk_Heater c
  have kc_Heater := h_kc_Heater c
  have at_Room_init := h_at_Room_init c
  have fn_Room_init := h_fn_Room_init c
  have kp_Room_init := h_kp_Room_init c
  have kd_Room_init := h_kd_Room_init c
  have mk_Room := h_mk_Room c
  have kc_Room := h_kc_Room c
  have at_Room_is_on := h_at_Room_is_on c
  have fn_Room_is_on := h_fn_Room_is_on c
  have kp_Room_is_on := h_kp_Room_is_on c
  have at_Room_heating_ticks := h_at_Room_heating_ticks c
  have fn_Room_heating_ticks := h_fn_Room_heating_ticks c
  have kp_Room_heating_ticks := h_kp_Room_heating_ticks c
  have at__law_start := h_at__law_start c
  have kp__law_start := h_kp__law_start c
  have at__law_drawn := h_at__law_drawn c
  have kp__law_drawn := h_kp__law_drawn c
  have at__law_changes := h_at__law_changes c
  have kp__law_changes := h_kp__law_changes c
  have at__law_weather := h_at__law_weather c
  have kp__law_weather := h_kp__law_weather c
  have at__law_single := h_at__law_single c
  have kp__law_single := h_kp__law_single c
  have at__law_prices := h_at__law_prices c
  have kp__law_prices := h_kp__law_prices c
  have at__law_cents := h_at__law_cents c
  have kp__law_cents := h_kp__law_cents c
  have at__law_is_lowest := h_at__law_is_lowest c
  have kp__law_is_lowest := h_kp__law_is_lowest c
  have at_law := h_at_law c
  have kp_law := h_kp_law c
  have at_Weather_changes := h_at_Weather_changes c
  have gt_Weather_changes := h_gt_Weather_changes c
  have tk_Weather_changes := h_tk_Weather_changes c
  have rc_Weather_changes := h_rc_Weather_changes c
  have kp_Weather_changes := h_kp_Weather_changes c
  have at_Prices_cents := h_at_Prices_cents c
  have gt_Prices_cents := h_gt_Prices_cents c
  have tk_Prices_cents := h_tk_Prices_cents c
  have rc_Prices_cents := h_rc_Prices_cents c
  have kp_Prices_cents := h_kp_Prices_cents c
  have at_Heater_gain := h_at_Heater_gain c
  have gt_Heater_gain := h_gt_Heater_gain c
  have tk_Heater_gain := h_tk_Heater_gain c
  have rc_Heater_gain := h_rc_Heater_gain c
  have kp_Heater_gain := h_kp_Heater_gain c
  have at_Heater_low := h_at_Heater_low c
  have gt_Heater_low := h_gt_Heater_low c
  have tk_Heater_low := h_tk_Heater_low c
  have rc_Heater_low := h_rc_Heater_low c
  have kp_Heater_low := h_kp_Heater_low c
  have at_Heater_high := h_at_Heater_high c
  have gt_Heater_high := h_gt_Heater_high c
  have tk_Heater_high := h_tk_Heater_high c
  have rc_Heater_high := h_rc_Heater_high c
  have kp_Heater_high := h_kp_Heater_high c
  have at_Room_repetition := h_at_Room_repetition c
  have gt_Room_repetition := h_gt_Room_repetition c
  have tk_Room_repetition := h_tk_Room_repetition c
  have rc_Room_repetition := h_rc_Room_repetition c
  have kp_Room_repetition := h_kp_Room_repetition c
  obtain ⟨t_MOST_TICKS, gl_MOST_TICKS⟩ := h_gl_MOST_TICKS c
  obtain ⟨t_MOST_GAIN, gl_MOST_GAIN⟩ := h_gl_MOST_GAIN c
  obtain ⟨t_MOST_DEGREES, gl_MOST_DEGREES⟩ := h_gl_MOST_DEGREES c
  obtain ⟨t_MOST_BUDGET, gl_MOST_BUDGET⟩ := h_gl_MOST_BUDGET c
  have gl_gcd := h_gl_gcd c
  have gl_lcm := h_gl_lcm c
  have z_divmod := h_z_divmod c
  have z_enumerate := h_z_enumerate c
  have z_int := h_z_int c
  have z_len := h_z_len c
  have z_min := h_z_min c
  have z_range := h_z_range c
  have z_sum := h_z_sum c
  obtain ⟨t_Prices_MAX_PRICE, cv_Prices_MAX_PRICE, gg_Prices_MAX_PRICE⟩ := h_cv_Prices_MAX_PRICE c
  obtain ⟨t_Prices_MAX_TICKS, cv_Prices_MAX_TICKS, gg_Prices_MAX_TICKS⟩ := h_cv_Prices_MAX_TICKS c
  obtain ⟨t_Weather_MAX_CHANGE, cv_Weather_MAX_CHANGE, gg_Weather_MAX_CHANGE⟩ := h_cv_Weather_MAX_CHANGE c
  obtain ⟨t_Weather_MAX_TICKS, cv_Weather_MAX_TICKS, gg_Weather_MAX_TICKS⟩ := h_cv_Weather_MAX_TICKS c
  obtain ⟨oc_check_number, od_check_number, osl_check_number, kV_check_number, dc_check_number, pm_check_number, an_check_number, cd_check_number, ct_check_number, lk_check_number, co_check_number⟩ := Hq.mo_ok (h_def_check_number c) (h_co_check_number c)
  obtain ⟨oc_first_invalid, od_first_invalid, osl_first_invalid, kV_first_invalid, dc_first_invalid, pm_first_invalid, an_first_invalid, cd_first_invalid, ct_first_invalid, lk_first_invalid, co_first_invalid⟩ := Hq.mo_ok (h_def_first_invalid c) (h_co_first_invalid c)
  obtain ⟨oc_sum_of_first, od_sum_of_first, osl_sum_of_first, kV_sum_of_first, dc_sum_of_first, pm_sum_of_first, an_sum_of_first, cd_sum_of_first, ct_sum_of_first, lk_sum_of_first, co_sum_of_first⟩ := Hq.mo_ok (h_def_sum_of_first c) (h_co_sum_of_first c)
  obtain ⟨oc_added_rounds, od_added_rounds, osl_added_rounds, kV_added_rounds, dc_added_rounds, pm_added_rounds, an_added_rounds, cd_added_rounds, ct_added_rounds, lk_added_rounds, co_added_rounds⟩ := Hq.mo_ok (h_def_added_rounds c) (h_co_added_rounds c)
  obtain ⟨oc_Weather_init, od_Weather_init, osl_Weather_init, kV_Weather_init, dc_Weather_init, pm_Weather_init, an_Weather_init, cd_Weather_init, ct_Weather_init, lk_Weather_init, co_Weather_init⟩ := Hq.mo_ok (h_def_Weather_init c) (h_co_Weather_init c)
  obtain ⟨oc_Weather_len, od_Weather_len, osl_Weather_len, kV_Weather_len, dc_Weather_len, pm_Weather_len, an_Weather_len, cd_Weather_len, ct_Weather_len, lk_Weather_len, co_Weather_len⟩ := Hq.mo_ok (h_def_Weather_len c) (h_co_Weather_len c)
  obtain ⟨oc_Weather_add, od_Weather_add, osl_Weather_add, kV_Weather_add, dc_Weather_add, pm_Weather_add, an_Weather_add, cd_Weather_add, ct_Weather_add, lk_Weather_add, co_Weather_add⟩ := Hq.mo_ok (h_def_Weather_add c) (h_co_Weather_add c)
  obtain ⟨oc_Weather_mul, od_Weather_mul, osl_Weather_mul, kV_Weather_mul, dc_Weather_mul, pm_Weather_mul, an_Weather_mul, cd_Weather_mul, ct_Weather_mul, lk_Weather_mul, co_Weather_mul⟩ := Hq.mo_ok (h_def_Weather_mul c) (h_co_Weather_mul c)
  obtain ⟨oc_Prices_init, od_Prices_init, osl_Prices_init, kV_Prices_init, dc_Prices_init, pm_Prices_init, an_Prices_init, cd_Prices_init, ct_Prices_init, lk_Prices_init, co_Prices_init⟩ := Hq.mo_ok (h_def_Prices_init c) (h_co_Prices_init c)
  obtain ⟨oc_heating_cost, od_heating_cost, osl_heating_cost, kV_heating_cost, dc_heating_cost, pm_heating_cost, an_heating_cost, cd_heating_cost, ct_heating_cost, lk_heating_cost, co_heating_cost⟩ := Hq.mo_ok (h_def_heating_cost c) (h_co_heating_cost c)
  obtain ⟨oc_first_over, od_first_over, osl_first_over, kV_first_over, dc_first_over, pm_first_over, an_first_over, cd_first_over, ct_first_over, lk_first_over, co_first_over⟩ := Hq.mo_ok (h_def_first_over c) (h_co_first_over c)
  obtain ⟨oc_cost_share, od_cost_share, osl_cost_share, kV_cost_share, dc_cost_share, pm_cost_share, an_cost_share, cd_cost_share, ct_cost_share, lk_cost_share, co_cost_share⟩ := Hq.mo_ok (h_def_cost_share c) (h_co_cost_share c)
  obtain ⟨oc_lowest_terms, od_lowest_terms, osl_lowest_terms, kV_lowest_terms, dc_lowest_terms, pm_lowest_terms, an_lowest_terms, cd_lowest_terms, ct_lowest_terms, lk_lowest_terms, co_lowest_terms⟩ := Hq.mo_ok (h_def_lowest_terms c) (h_co_lowest_terms c)
  obtain ⟨oc_Timeline_init, od_Timeline_init, osl_Timeline_init, kV_Timeline_init, dc_Timeline_init, pm_Timeline_init, an_Timeline_init, cd_Timeline_init, ct_Timeline_init, lk_Timeline_init, co_Timeline_init⟩ := Hq.mo_ok (h_def_Timeline_init c) (h_co_Timeline_init c)
  obtain ⟨oc_Timeline_ticks_of_round, od_Timeline_ticks_of_round, osl_Timeline_ticks_of_round, kV_Timeline_ticks_of_round, dc_Timeline_ticks_of_round, pm_Timeline_ticks_of_round, an_Timeline_ticks_of_round, cd_Timeline_ticks_of_round, ct_Timeline_ticks_of_round, lk_Timeline_ticks_of_round, co_Timeline_ticks_of_round⟩ := Hq.mo_ok (h_def_Timeline_ticks_of_round c) (h_co_Timeline_ticks_of_round c)
  obtain ⟨oc_Timeline_begin_of, od_Timeline_begin_of, osl_Timeline_begin_of, kV_Timeline_begin_of, dc_Timeline_begin_of, pm_Timeline_begin_of, an_Timeline_begin_of, cd_Timeline_begin_of, ct_Timeline_begin_of, lk_Timeline_begin_of, co_Timeline_begin_of⟩ := Hq.mo_ok (h_def_Timeline_begin_of c) (h_co_Timeline_begin_of c)
  obtain ⟨oc_Timeline_place, od_Timeline_place, osl_Timeline_place, kV_Timeline_place, dc_Timeline_place, pm_Timeline_place, an_Timeline_place, cd_Timeline_place, ct_Timeline_place, lk_Timeline_place, co_Timeline_place⟩ := Hq.mo_ok (h_def_Timeline_place c) (h_co_Timeline_place c)
  obtain ⟨oc_Timeline_number_at, od_Timeline_number_at, osl_Timeline_number_at, kV_Timeline_number_at, dc_Timeline_number_at, pm_Timeline_number_at, an_Timeline_number_at, cd_Timeline_number_at, ct_Timeline_number_at, lk_Timeline_number_at, co_Timeline_number_at⟩ := Hq.mo_ok (h_def_Timeline_number_at c) (h_co_Timeline_number_at c)
  obtain ⟨oc_Timeline_in_rounds_of, od_Timeline_in_rounds_of, osl_Timeline_in_rounds_of, kV_Timeline_in_rounds_of, dc_Timeline_in_rounds_of, pm_Timeline_in_rounds_of, an_Timeline_in_rounds_of, cd_Timeline_in_rounds_of, ct_Timeline_in_rounds_of, lk_Timeline_in_rounds_of, co_Timeline_in_rounds_of⟩ := Hq.mo_ok (h_def_Timeline_in_rounds_of c) (h_co_Timeline_in_rounds_of c)
  obtain ⟨oc_HeatingSum_init, od_HeatingSum_init, osl_HeatingSum_init, kV_HeatingSum_init, dc_HeatingSum_init, pm_HeatingSum_init, an_HeatingSum_init, cd_HeatingSum_init, ct_HeatingSum_init, lk_HeatingSum_init, co_HeatingSum_init⟩ := Hq.mo_ok (h_def_HeatingSum_init c) (h_co_HeatingSum_init c)
  obtain ⟨oc_HeatingSum_is_on, od_HeatingSum_is_on, osl_HeatingSum_is_on, kV_HeatingSum_is_on, dc_HeatingSum_is_on, pm_HeatingSum_is_on, an_HeatingSum_is_on, cd_HeatingSum_is_on, ct_HeatingSum_is_on, lk_HeatingSum_is_on, co_HeatingSum_is_on⟩ := Hq.mo_ok (h_def_HeatingSum_is_on c) (h_co_HeatingSum_is_on c)
  obtain ⟨oc_HeatingSum_sum_within, od_HeatingSum_sum_within, osl_HeatingSum_sum_within, kV_HeatingSum_sum_within, dc_HeatingSum_sum_within, pm_HeatingSum_sum_within, an_HeatingSum_sum_within, cd_HeatingSum_sum_within, ct_HeatingSum_sum_within, lk_HeatingSum_sum_within, co_HeatingSum_sum_within⟩ := Hq.mo_ok (h_def_HeatingSum_sum_within c) (h_co_HeatingSum_sum_within c)
  obtain ⟨oc_HeatingSum_sum_before, od_HeatingSum_sum_before, osl_HeatingSum_sum_before, kV_HeatingSum_sum_before, dc_HeatingSum_sum_before, pm_HeatingSum_sum_before, an_HeatingSum_sum_before, cd_HeatingSum_sum_before, ct_HeatingSum_sum_before, lk_HeatingSum_sum_before, co_HeatingSum_sum_before⟩ := Hq.mo_ok (h_def_HeatingSum_sum_before c) (h_co_HeatingSum_sum_before c)
  obtain ⟨oc_HeatingSum_sum_of_round, od_HeatingSum_sum_of_round, osl_HeatingSum_sum_of_round, kV_HeatingSum_sum_of_round, dc_HeatingSum_sum_of_round, pm_HeatingSum_sum_of_round, an_HeatingSum_sum_of_round, cd_HeatingSum_sum_of_round, ct_HeatingSum_sum_of_round, lk_HeatingSum_sum_of_round, co_HeatingSum_sum_of_round⟩ := Hq.mo_ok (h_def_HeatingSum_sum_of_round c) (h_co_HeatingSum_sum_of_round c)
  obtain ⟨oc_HeatingSum_share, od_HeatingSum_share, osl_HeatingSum_share, kV_HeatingSum_share, dc_HeatingSum_share, pm_HeatingSum_share, an_HeatingSum_share, cd_HeatingSum_share, ct_HeatingSum_share, lk_HeatingSum_share, co_HeatingSum_share⟩ := Hq.mo_ok (h_def_HeatingSum_share c) (h_co_HeatingSum_share c)
  obtain ⟨oc_Drift_init, od_Drift_init, osl_Drift_init, kV_Drift_init, dc_Drift_init, pm_Drift_init, an_Drift_init, cd_Drift_init, ct_Drift_init, lk_Drift_init, co_Drift_init⟩ := Hq.mo_ok (h_def_Drift_init c) (h_co_Drift_init c)
  obtain ⟨oc_Drift_sum_to, od_Drift_sum_to, osl_Drift_sum_to, kV_Drift_sum_to, dc_Drift_sum_to, pm_Drift_sum_to, an_Drift_sum_to, cd_Drift_sum_to, ct_Drift_sum_to, lk_Drift_sum_to, co_Drift_sum_to⟩ := Hq.mo_ok (h_def_Drift_sum_to c) (h_co_Drift_sum_to c)
  obtain ⟨oc_both_drifts, od_both_drifts, osl_both_drifts, kV_both_drifts, dc_both_drifts, pm_both_drifts, an_both_drifts, cd_both_drifts, ct_both_drifts, lk_both_drifts, co_both_drifts⟩ := Hq.mo_ok (h_def_both_drifts c) (h_co_both_drifts c)
  obtain ⟨oc_Stretch_init, od_Stretch_init, osl_Stretch_init, kV_Stretch_init, dc_Stretch_init, pm_Stretch_init, an_Stretch_init, cd_Stretch_init, ct_Stretch_init, lk_Stretch_init, co_Stretch_init⟩ := Hq.mo_ok (h_def_Stretch_init c) (h_co_Stretch_init c)
  obtain ⟨oc_Stretch_degrees_at, od_Stretch_degrees_at, osl_Stretch_degrees_at, kV_Stretch_degrees_at, dc_Stretch_degrees_at, pm_Stretch_degrees_at, an_Stretch_degrees_at, cd_Stretch_degrees_at, ct_Stretch_degrees_at, lk_Stretch_degrees_at, co_Stretch_degrees_at⟩ := Hq.mo_ok (h_def_Stretch_degrees_at c) (h_co_Stretch_degrees_at c)
  obtain ⟨oc_Stretch_begin_state, od_Stretch_begin_state, osl_Stretch_begin_state, kV_Stretch_begin_state, dc_Stretch_begin_state, pm_Stretch_begin_state, an_Stretch_begin_state, cd_Stretch_begin_state, ct_Stretch_begin_state, lk_Stretch_begin_state, co_Stretch_begin_state⟩ := Hq.mo_ok (h_def_Stretch_begin_state c) (h_co_Stretch_begin_state c)
  obtain ⟨oc_Stretch_switched, od_Stretch_switched, osl_Stretch_switched, kV_Stretch_switched, dc_Stretch_switched, pm_Stretch_switched, an_Stretch_switched, cd_Stretch_switched, ct_Stretch_switched, lk_Stretch_switched, co_Stretch_switched⟩ := Hq.mo_ok (h_def_Stretch_switched c) (h_co_Stretch_switched c)
  obtain ⟨oc_Stretch_level_ticks, od_Stretch_level_ticks, osl_Stretch_level_ticks, kV_Stretch_level_ticks, dc_Stretch_level_ticks, pm_Stretch_level_ticks, an_Stretch_level_ticks, cd_Stretch_level_ticks, ct_Stretch_level_ticks, lk_Stretch_level_ticks, co_Stretch_level_ticks⟩ := Hq.mo_ok (h_def_Stretch_level_ticks c) (h_co_Stretch_level_ticks c)
  obtain ⟨oc_Stretch_first_beyond, od_Stretch_first_beyond, osl_Stretch_first_beyond, kV_Stretch_first_beyond, dc_Stretch_first_beyond, pm_Stretch_first_beyond, an_Stretch_first_beyond, cd_Stretch_first_beyond, ct_Stretch_first_beyond, lk_Stretch_first_beyond, co_Stretch_first_beyond⟩ := Hq.mo_ok (h_def_Stretch_first_beyond c) (h_co_Stretch_first_beyond c)
  obtain ⟨oc_heater_state, od_heater_state, osl_heater_state, kV_heater_state, dc_heater_state, pm_heater_state, an_heater_state, cd_heater_state, ct_heater_state, lk_heater_state, co_heater_state⟩ := Hq.mo_ok (h_def_heater_state c) (h_co_heater_state c)
  obtain ⟨oc_Course_init, od_Course_init, osl_Course_init, kV_Course_init, dc_Course_init, pm_Course_init, an_Course_init, cd_Course_init, ct_Course_init, lk_Course_init, co_Course_init⟩ := Hq.mo_ok (h_def_Course_init c) (h_co_Course_init c)
  obtain ⟨oc_Course_follow, od_Course_follow, osl_Course_follow, kV_Course_follow, dc_Course_follow, pm_Course_follow, an_Course_follow, cd_Course_follow, ct_Course_follow, lk_Course_follow, co_Course_follow⟩ := Hq.mo_ok (h_def_Course_follow c) (h_co_Course_follow c)
  obtain ⟨oc_Course_end_of, od_Course_end_of, osl_Course_end_of, kV_Course_end_of, dc_Course_end_of, pm_Course_end_of, an_Course_end_of, cd_Course_end_of, ct_Course_end_of, lk_Course_end_of, co_Course_end_of⟩ := Hq.mo_ok (h_def_Course_end_of c) (h_co_Course_end_of c)
  obtain ⟨oc_Course_on_in, od_Course_on_in, osl_Course_on_in, kV_Course_on_in, dc_Course_on_in, pm_Course_on_in, an_Course_on_in, cd_Course_on_in, ct_Course_on_in, lk_Course_on_in, co_Course_on_in⟩ := Hq.mo_ok (h_def_Course_on_in c) (h_co_Course_on_in c)
  obtain ⟨oc_Course_heating_sum, od_Course_heating_sum, osl_Course_heating_sum, kV_Course_heating_sum, dc_Course_heating_sum, pm_Course_heating_sum, an_Course_heating_sum, cd_Course_heating_sum, ct_Course_heating_sum, lk_Course_heating_sum, co_Course_heating_sum⟩ := Hq.mo_ok (h_def_Course_heating_sum c) (h_co_Course_heating_sum c)
  obtain ⟨oc_Course_heated_before, od_Course_heated_before, osl_Course_heated_before, kV_Course_heated_before, dc_Course_heated_before, pm_Course_heated_before, an_Course_heated_before, cd_Course_heated_before, ct_Course_heated_before, lk_Course_heated_before, co_Course_heated_before⟩ := Hq.mo_ok (h_def_Course_heated_before c) (h_co_Course_heated_before c)
  obtain ⟨oc_Course_recurrence, od_Course_recurrence, osl_Course_recurrence, kV_Course_recurrence, dc_Course_recurrence, pm_Course_recurrence, an_Course_recurrence, cd_Course_recurrence, ct_Course_recurrence, lk_Course_recurrence, co_Course_recurrence⟩ := Hq.mo_ok (h_def_Course_recurrence c) (h_co_Course_recurrence c)
  obtain ⟨oc_check_gain, od_check_gain, osl_check_gain, kV_check_gain, dc_check_gain, pm_check_gain, an_check_gain, cd_check_gain, ct_check_gain, lk_check_gain, co_check_gain⟩ := Hq.mo_ok (h_def_check_gain c) (h_co_check_gain c)
  obtain ⟨oc_can_be_thresholds, od_can_be_thresholds, osl_can_be_thresholds, kV_can_be_thresholds, dc_can_be_thresholds, pm_can_be_thresholds, an_can_be_thresholds, cd_can_be_thresholds, ct_can_be_thresholds, lk_can_be_thresholds, co_can_be_thresholds⟩ := Hq.mo_ok (h_def_can_be_thresholds c) (h_co_can_be_thresholds c)
  obtain ⟨oc_Heater_init, od_Heater_init, osl_Heater_init, kV_Heater_init, dc_Heater_init, pm_Heater_init, an_Heater_init, cd_Heater_init, ct_Heater_init, lk_Heater_init, co_Heater_init⟩ := Hq.mo_ok (h_def_Heater_init c) (h_co_Heater_init c)
  obtain ⟨oc_Room_init, od_Room_init, osl_Room_init, dc_Room_init, pm_Room_init, an_Room_init, cd_Room_init, ct_Room_init, lk_Room_init, co_Room_init⟩ := Hq.mo_okK (h_def_Room_init c) (h_co_Room_init c) (h_kw_Room_init c)
  obtain ⟨oc_Room_is_on, od_Room_is_on, osl_Room_is_on, kV_Room_is_on, dc_Room_is_on, pm_Room_is_on, an_Room_is_on, cd_Room_is_on, ct_Room_is_on, lk_Room_is_on, co_Room_is_on⟩ := Hq.mo_ok (h_def_Room_is_on c) (h_co_Room_is_on c)
  obtain ⟨oc_Room_heating_ticks, od_Room_heating_ticks, osl_Room_heating_ticks, kV_Room_heating_ticks, dc_Room_heating_ticks, pm_Room_heating_ticks, an_Room_heating_ticks, cd_Room_heating_ticks, ct_Room_heating_ticks, lk_Room_heating_ticks, co_Room_heating_ticks⟩ := Hq.mo_ok (h_def_Room_heating_ticks c) (h_co_Room_heating_ticks c)
  obtain ⟨oc__law_start, od__law_start, osl__law_start, kV__law_start, dc__law_start, pm__law_start, an__law_start, cd__law_start, ct__law_start, lk__law_start, co__law_start⟩ := Hq.mo_ok (h_def__law_start c) (h_co__law_start c)
  obtain ⟨oc__law_drawn, od__law_drawn, osl__law_drawn, kV__law_drawn, dc__law_drawn, pm__law_drawn, an__law_drawn, cd__law_drawn, ct__law_drawn, lk__law_drawn, co__law_drawn⟩ := Hq.mo_ok (h_def__law_drawn c) (h_co__law_drawn c)
  obtain ⟨oc__law_changes, od__law_changes, osl__law_changes, kV__law_changes, dc__law_changes, pm__law_changes, an__law_changes, cd__law_changes, ct__law_changes, lk__law_changes, co__law_changes⟩ := Hq.mo_ok (h_def__law_changes c) (h_co__law_changes c)
  obtain ⟨oc__law_weather, od__law_weather, osl__law_weather, kV__law_weather, dc__law_weather, pm__law_weather, an__law_weather, cd__law_weather, ct__law_weather, lk__law_weather, co__law_weather⟩ := Hq.mo_ok (h_def__law_weather c) (h_co__law_weather c)
  obtain ⟨oc__law_single, od__law_single, osl__law_single, kV__law_single, dc__law_single, pm__law_single, an__law_single, cd__law_single, ct__law_single, lk__law_single, co__law_single⟩ := Hq.mo_ok (h_def__law_single c) (h_co__law_single c)
  obtain ⟨oc__law_prices, od__law_prices, osl__law_prices, kV__law_prices, dc__law_prices, pm__law_prices, an__law_prices, cd__law_prices, ct__law_prices, lk__law_prices, co__law_prices⟩ := Hq.mo_ok (h_def__law_prices c) (h_co__law_prices c)
  obtain ⟨oc__law_cents, od__law_cents, osl__law_cents, kV__law_cents, dc__law_cents, pm__law_cents, an__law_cents, cd__law_cents, ct__law_cents, lk__law_cents, co__law_cents⟩ := Hq.mo_ok (h_def__law_cents c) (h_co__law_cents c)
  obtain ⟨oc__law_is_lowest, od__law_is_lowest, osl__law_is_lowest, kV__law_is_lowest, dc__law_is_lowest, pm__law_is_lowest, an__law_is_lowest, cd__law_is_lowest, ct__law_is_lowest, lk__law_is_lowest, co__law_is_lowest⟩ := Hq.mo_ok (h_def__law_is_lowest c) (h_co__law_is_lowest c)
  obtain ⟨oc_law, od_law, osl_law, kV_law, dc_law, pm_law, an_law, cd_law, ct_law, lk_law, co_law⟩ := Hq.mo_ok (h_def_law c) (h_co_law c)
  obtain ⟨oc_Weather_changes, od_Weather_changes, osl_Weather_changes, kV_Weather_changes, dc_Weather_changes, pm_Weather_changes, an_Weather_changes, cd_Weather_changes, ct_Weather_changes, lk_Weather_changes, co_Weather_changes⟩ := Hq.mo_ok (h_def_Weather_changes c) (h_co_Weather_changes c)
  obtain ⟨oc_Prices_cents, od_Prices_cents, osl_Prices_cents, kV_Prices_cents, dc_Prices_cents, pm_Prices_cents, an_Prices_cents, cd_Prices_cents, ct_Prices_cents, lk_Prices_cents, co_Prices_cents⟩ := Hq.mo_ok (h_def_Prices_cents c) (h_co_Prices_cents c)
  obtain ⟨oc_Heater_gain, od_Heater_gain, osl_Heater_gain, kV_Heater_gain, dc_Heater_gain, pm_Heater_gain, an_Heater_gain, cd_Heater_gain, ct_Heater_gain, lk_Heater_gain, co_Heater_gain⟩ := Hq.mo_ok (h_def_Heater_gain c) (h_co_Heater_gain c)
  obtain ⟨oc_Heater_low, od_Heater_low, osl_Heater_low, kV_Heater_low, dc_Heater_low, pm_Heater_low, an_Heater_low, cd_Heater_low, ct_Heater_low, lk_Heater_low, co_Heater_low⟩ := Hq.mo_ok (h_def_Heater_low c) (h_co_Heater_low c)
  obtain ⟨oc_Heater_high, od_Heater_high, osl_Heater_high, kV_Heater_high, dc_Heater_high, pm_Heater_high, an_Heater_high, cd_Heater_high, ct_Heater_high, lk_Heater_high, co_Heater_high⟩ := Hq.mo_ok (h_def_Heater_high c) (h_co_Heater_high c)
  obtain ⟨oc_Room_repetition, od_Room_repetition, osl_Room_repetition, kV_Room_repetition, dc_Room_repetition, pm_Room_repetition, an_Room_repetition, cd_Room_repetition, ct_Room_repetition, lk_Room_repetition, co_Room_repetition⟩ := Hq.mo_ok (h_def_Room_repetition c) (h_co_Room_repetition c)
  have ea := hfa.symm.trans (PySem.W.mg_of X G at_law)
  have ea : fa = He.ga K "law" := by injection ea with ea; injection ea
  have T : Txt K mg {
      c_Weather := He.ga K "Weather"
      c_Prices := He.ga K "Prices"
      c_Timeline := He.ga K "Timeline"
      c_HeatingSum := He.ga K "HeatingSum"
      c_Drift := He.ga K "Drift"
      c_Stretch := He.ga K "Stretch"
      c_Course := He.ga K "Course"
      c_Heater := He.ga K "Heater"
      c_Room := He.ga K "Room"
      f_check_number := (He.ga K "check_number")
      d_check_number := PySem.W.fnOf "check_number" "check_number" (defArgs s_check_number) (defBody s_check_number) (defScope s_check_number) .none kV_check_number dc_check_number pm_check_number an_check_number cd_check_number ct_check_number
      f_first_invalid := (He.ga K "first_invalid")
      d_first_invalid := PySem.W.fnOf "first_invalid" "first_invalid" (defArgs s_first_invalid) (defBody s_first_invalid) (defScope s_first_invalid) .none kV_first_invalid dc_first_invalid pm_first_invalid an_first_invalid cd_first_invalid ct_first_invalid
      f_sum_of_first := (He.ga K "sum_of_first")
      d_sum_of_first := PySem.W.fnOf "sum_of_first" "sum_of_first" (defArgs s_sum_of_first) (defBody s_sum_of_first) (defScope s_sum_of_first) .none kV_sum_of_first dc_sum_of_first pm_sum_of_first an_sum_of_first cd_sum_of_first ct_sum_of_first
      f_added_rounds := (He.ga K "added_rounds")
      d_added_rounds := PySem.W.fnOf "added_rounds" "added_rounds" (defArgs s_added_rounds) (defBody s_added_rounds) (defScope s_added_rounds) .none kV_added_rounds dc_added_rounds pm_added_rounds an_added_rounds cd_added_rounds ct_added_rounds
      f_Weather_init := (He.ma K (He.ga K "Weather") "__init__")
      d_Weather_init := PySem.W.fnOf "__init__" "Weather.__init__" (defArgs s_Weather_init) (defBody s_Weather_init) (defScope s_Weather_init) .none kV_Weather_init dc_Weather_init pm_Weather_init an_Weather_init cd_Weather_init ct_Weather_init
      f_Weather_len := (He.ma K (He.ga K "Weather") "__len__")
      d_Weather_len := PySem.W.fnOf "__len__" "Weather.__len__" (defArgs s_Weather_len) (defBody s_Weather_len) (defScope s_Weather_len) .none kV_Weather_len dc_Weather_len pm_Weather_len an_Weather_len cd_Weather_len ct_Weather_len
      f_Weather_add := (He.ma K (He.ga K "Weather") "__add__")
      d_Weather_add := PySem.W.fnOf "__add__" "Weather.__add__" (defArgs s_Weather_add) (defBody s_Weather_add) (defScope s_Weather_add) .none kV_Weather_add dc_Weather_add pm_Weather_add an_Weather_add cd_Weather_add ct_Weather_add
      f_Weather_mul := (He.ma K (He.ga K "Weather") "__mul__")
      d_Weather_mul := PySem.W.fnOf "__mul__" "Weather.__mul__" (defArgs s_Weather_mul) (defBody s_Weather_mul) (defScope s_Weather_mul) .none kV_Weather_mul dc_Weather_mul pm_Weather_mul an_Weather_mul cd_Weather_mul ct_Weather_mul
      f_Prices_init := (He.ma K (He.ga K "Prices") "__init__")
      d_Prices_init := PySem.W.fnOf "__init__" "Prices.__init__" (defArgs s_Prices_init) (defBody s_Prices_init) (defScope s_Prices_init) .none kV_Prices_init dc_Prices_init pm_Prices_init an_Prices_init cd_Prices_init ct_Prices_init
      f_heating_cost := (He.ga K "heating_cost")
      d_heating_cost := PySem.W.fnOf "heating_cost" "heating_cost" (defArgs s_heating_cost) (defBody s_heating_cost) (defScope s_heating_cost) .none kV_heating_cost dc_heating_cost pm_heating_cost an_heating_cost cd_heating_cost ct_heating_cost
      f_first_over := (He.ga K "first_over")
      d_first_over := PySem.W.fnOf "first_over" "first_over" (defArgs s_first_over) (defBody s_first_over) (defScope s_first_over) .none kV_first_over dc_first_over pm_first_over an_first_over cd_first_over ct_first_over
      f_cost_share := (He.ga K "cost_share")
      d_cost_share := PySem.W.fnOf "cost_share" "cost_share" (defArgs s_cost_share) (defBody s_cost_share) (defScope s_cost_share) .none kV_cost_share dc_cost_share pm_cost_share an_cost_share cd_cost_share ct_cost_share
      f_lowest_terms := (He.ga K "lowest_terms")
      d_lowest_terms := PySem.W.fnOf "lowest_terms" "lowest_terms" (defArgs s_lowest_terms) (defBody s_lowest_terms) (defScope s_lowest_terms) .none kV_lowest_terms dc_lowest_terms pm_lowest_terms an_lowest_terms cd_lowest_terms ct_lowest_terms
      f_Timeline_init := (He.ma K (He.ga K "Timeline") "__init__")
      d_Timeline_init := PySem.W.fnOf "__init__" "Timeline.__init__" (defArgs s_Timeline_init) (defBody s_Timeline_init) (defScope s_Timeline_init) .none kV_Timeline_init dc_Timeline_init pm_Timeline_init an_Timeline_init cd_Timeline_init ct_Timeline_init
      f_Timeline_ticks_of_round := (He.ma K (He.ga K "Timeline") "ticks_of_round")
      d_Timeline_ticks_of_round := PySem.W.fnOf "ticks_of_round" "Timeline.ticks_of_round" (defArgs s_Timeline_ticks_of_round) (defBody s_Timeline_ticks_of_round) (defScope s_Timeline_ticks_of_round) .none kV_Timeline_ticks_of_round dc_Timeline_ticks_of_round pm_Timeline_ticks_of_round an_Timeline_ticks_of_round cd_Timeline_ticks_of_round ct_Timeline_ticks_of_round
      f_Timeline_begin_of := (He.ma K (He.ga K "Timeline") "begin_of")
      d_Timeline_begin_of := PySem.W.fnOf "begin_of" "Timeline.begin_of" (defArgs s_Timeline_begin_of) (defBody s_Timeline_begin_of) (defScope s_Timeline_begin_of) .none kV_Timeline_begin_of dc_Timeline_begin_of pm_Timeline_begin_of an_Timeline_begin_of cd_Timeline_begin_of ct_Timeline_begin_of
      f_Timeline_place := (He.ma K (He.ga K "Timeline") "place")
      d_Timeline_place := PySem.W.fnOf "place" "Timeline.place" (defArgs s_Timeline_place) (defBody s_Timeline_place) (defScope s_Timeline_place) .none kV_Timeline_place dc_Timeline_place pm_Timeline_place an_Timeline_place cd_Timeline_place ct_Timeline_place
      f_Timeline_number_at := (He.ma K (He.ga K "Timeline") "_number_at")
      d_Timeline_number_at := PySem.W.fnOf "_number_at" "Timeline._number_at" (defArgs s_Timeline_number_at) (defBody s_Timeline_number_at) (defScope s_Timeline_number_at) .none kV_Timeline_number_at dc_Timeline_number_at pm_Timeline_number_at an_Timeline_number_at cd_Timeline_number_at ct_Timeline_number_at
      f_Timeline_in_rounds_of := (He.ma K (He.ga K "Timeline") "in_rounds_of")
      d_Timeline_in_rounds_of := PySem.W.fnOf "in_rounds_of" "Timeline.in_rounds_of" (defArgs s_Timeline_in_rounds_of) (defBody s_Timeline_in_rounds_of) (defScope s_Timeline_in_rounds_of) .none kV_Timeline_in_rounds_of dc_Timeline_in_rounds_of pm_Timeline_in_rounds_of an_Timeline_in_rounds_of cd_Timeline_in_rounds_of ct_Timeline_in_rounds_of
      f_HeatingSum_init := (He.ma K (He.ga K "HeatingSum") "__init__")
      d_HeatingSum_init := PySem.W.fnOf "__init__" "HeatingSum.__init__" (defArgs s_HeatingSum_init) (defBody s_HeatingSum_init) (defScope s_HeatingSum_init) .none kV_HeatingSum_init dc_HeatingSum_init pm_HeatingSum_init an_HeatingSum_init cd_HeatingSum_init ct_HeatingSum_init
      f_HeatingSum_is_on := (He.ma K (He.ga K "HeatingSum") "_is_on")
      d_HeatingSum_is_on := PySem.W.fnOf "_is_on" "HeatingSum._is_on" (defArgs s_HeatingSum_is_on) (defBody s_HeatingSum_is_on) (defScope s_HeatingSum_is_on) .none kV_HeatingSum_is_on dc_HeatingSum_is_on pm_HeatingSum_is_on an_HeatingSum_is_on cd_HeatingSum_is_on ct_HeatingSum_is_on
      f_HeatingSum_sum_within := (He.ma K (He.ga K "HeatingSum") "_sum_within")
      d_HeatingSum_sum_within := PySem.W.fnOf "_sum_within" "HeatingSum._sum_within" (defArgs s_HeatingSum_sum_within) (defBody s_HeatingSum_sum_within) (defScope s_HeatingSum_sum_within) .none kV_HeatingSum_sum_within dc_HeatingSum_sum_within pm_HeatingSum_sum_within an_HeatingSum_sum_within cd_HeatingSum_sum_within ct_HeatingSum_sum_within
      f_HeatingSum_sum_before := (He.ma K (He.ga K "HeatingSum") "sum_before")
      d_HeatingSum_sum_before := PySem.W.fnOf "sum_before" "HeatingSum.sum_before" (defArgs s_HeatingSum_sum_before) (defBody s_HeatingSum_sum_before) (defScope s_HeatingSum_sum_before) .none kV_HeatingSum_sum_before dc_HeatingSum_sum_before pm_HeatingSum_sum_before an_HeatingSum_sum_before cd_HeatingSum_sum_before ct_HeatingSum_sum_before
      f_HeatingSum_sum_of_round := (He.ma K (He.ga K "HeatingSum") "_sum_of_round")
      d_HeatingSum_sum_of_round := PySem.W.fnOf "_sum_of_round" "HeatingSum._sum_of_round" (defArgs s_HeatingSum_sum_of_round) (defBody s_HeatingSum_sum_of_round) (defScope s_HeatingSum_sum_of_round) .none kV_HeatingSum_sum_of_round dc_HeatingSum_sum_of_round pm_HeatingSum_sum_of_round an_HeatingSum_sum_of_round cd_HeatingSum_sum_of_round ct_HeatingSum_sum_of_round
      f_HeatingSum_share := (He.ma K (He.ga K "HeatingSum") "share")
      d_HeatingSum_share := PySem.W.fnOf "share" "HeatingSum.share" (defArgs s_HeatingSum_share) (defBody s_HeatingSum_share) (defScope s_HeatingSum_share) .none kV_HeatingSum_share dc_HeatingSum_share pm_HeatingSum_share an_HeatingSum_share cd_HeatingSum_share ct_HeatingSum_share
      f_Drift_init := (He.ma K (He.ga K "Drift") "__init__")
      d_Drift_init := PySem.W.fnOf "__init__" "Drift.__init__" (defArgs s_Drift_init) (defBody s_Drift_init) (defScope s_Drift_init) .none kV_Drift_init dc_Drift_init pm_Drift_init an_Drift_init cd_Drift_init ct_Drift_init
      f_Drift_sum_to := (He.ma K (He.ga K "Drift") "sum_to")
      d_Drift_sum_to := PySem.W.fnOf "sum_to" "Drift.sum_to" (defArgs s_Drift_sum_to) (defBody s_Drift_sum_to) (defScope s_Drift_sum_to) .none kV_Drift_sum_to dc_Drift_sum_to pm_Drift_sum_to an_Drift_sum_to cd_Drift_sum_to ct_Drift_sum_to
      f_both_drifts := (He.ga K "both_drifts")
      d_both_drifts := PySem.W.fnOf "both_drifts" "both_drifts" (defArgs s_both_drifts) (defBody s_both_drifts) (defScope s_both_drifts) .none kV_both_drifts dc_both_drifts pm_both_drifts an_both_drifts cd_both_drifts ct_both_drifts
      f_Stretch_init := (He.ma K (He.ga K "Stretch") "__init__")
      d_Stretch_init := PySem.W.fnOf "__init__" "Stretch.__init__" (defArgs s_Stretch_init) (defBody s_Stretch_init) (defScope s_Stretch_init) .none kV_Stretch_init dc_Stretch_init pm_Stretch_init an_Stretch_init cd_Stretch_init ct_Stretch_init
      f_Stretch_degrees_at := (He.ma K (He.ga K "Stretch") "degrees_at")
      d_Stretch_degrees_at := PySem.W.fnOf "degrees_at" "Stretch.degrees_at" (defArgs s_Stretch_degrees_at) (defBody s_Stretch_degrees_at) (defScope s_Stretch_degrees_at) .none kV_Stretch_degrees_at dc_Stretch_degrees_at pm_Stretch_degrees_at an_Stretch_degrees_at cd_Stretch_degrees_at ct_Stretch_degrees_at
      f_Stretch_begin_state := (He.ma K (He.ga K "Stretch") "begin_state")
      d_Stretch_begin_state := PySem.W.fnOf "begin_state" "Stretch.begin_state" (defArgs s_Stretch_begin_state) (defBody s_Stretch_begin_state) (defScope s_Stretch_begin_state) .none kV_Stretch_begin_state dc_Stretch_begin_state pm_Stretch_begin_state an_Stretch_begin_state cd_Stretch_begin_state ct_Stretch_begin_state
      f_Stretch_switched := (He.ma K (He.ga K "Stretch") "switched")
      d_Stretch_switched := PySem.W.fnOf "switched" "Stretch.switched" (defArgs s_Stretch_switched) (defBody s_Stretch_switched) (defScope s_Stretch_switched) .none kV_Stretch_switched dc_Stretch_switched pm_Stretch_switched an_Stretch_switched cd_Stretch_switched ct_Stretch_switched
      f_Stretch_level_ticks := (He.ma K (He.ga K "Stretch") "level_ticks")
      d_Stretch_level_ticks := PySem.W.fnOf "level_ticks" "Stretch.level_ticks" (defArgs s_Stretch_level_ticks) (defBody s_Stretch_level_ticks) (defScope s_Stretch_level_ticks) .none kV_Stretch_level_ticks dc_Stretch_level_ticks pm_Stretch_level_ticks an_Stretch_level_ticks cd_Stretch_level_ticks ct_Stretch_level_ticks
      f_Stretch_first_beyond := (He.ma K (He.ga K "Stretch") "first_beyond")
      d_Stretch_first_beyond := PySem.W.fnOf "first_beyond" "Stretch.first_beyond" (defArgs s_Stretch_first_beyond) (defBody s_Stretch_first_beyond) (defScope s_Stretch_first_beyond) .none kV_Stretch_first_beyond dc_Stretch_first_beyond pm_Stretch_first_beyond an_Stretch_first_beyond cd_Stretch_first_beyond ct_Stretch_first_beyond
      f_heater_state := (He.ga K "heater_state")
      d_heater_state := PySem.W.fnOf "heater_state" "heater_state" (defArgs s_heater_state) (defBody s_heater_state) (defScope s_heater_state) .none kV_heater_state dc_heater_state pm_heater_state an_heater_state cd_heater_state ct_heater_state
      f_Course_init := (He.ma K (He.ga K "Course") "__init__")
      d_Course_init := PySem.W.fnOf "__init__" "Course.__init__" (defArgs s_Course_init) (defBody s_Course_init) (defScope s_Course_init) .none kV_Course_init dc_Course_init pm_Course_init an_Course_init cd_Course_init ct_Course_init
      f_Course_follow := (He.ma K (He.ga K "Course") "_follow")
      d_Course_follow := PySem.W.fnOf "_follow" "Course._follow" (defArgs s_Course_follow) (defBody s_Course_follow) (defScope s_Course_follow) .none kV_Course_follow dc_Course_follow pm_Course_follow an_Course_follow cd_Course_follow ct_Course_follow
      f_Course_end_of := (He.ma K (He.ga K "Course") "_end_of")
      d_Course_end_of := PySem.W.fnOf "_end_of" "Course._end_of" (defArgs s_Course_end_of) (defBody s_Course_end_of) (defScope s_Course_end_of) .none kV_Course_end_of dc_Course_end_of pm_Course_end_of an_Course_end_of cd_Course_end_of ct_Course_end_of
      f_Course_on_in := (He.ma K (He.ga K "Course") "on_in")
      d_Course_on_in := PySem.W.fnOf "on_in" "Course.on_in" (defArgs s_Course_on_in) (defBody s_Course_on_in) (defScope s_Course_on_in) .none kV_Course_on_in dc_Course_on_in pm_Course_on_in an_Course_on_in cd_Course_on_in ct_Course_on_in
      f_Course_heating_sum := (He.ma K (He.ga K "Course") "heating_sum")
      d_Course_heating_sum := PySem.W.fnOf "heating_sum" "Course.heating_sum" (defArgs s_Course_heating_sum) (defBody s_Course_heating_sum) (defScope s_Course_heating_sum) .none kV_Course_heating_sum dc_Course_heating_sum pm_Course_heating_sum an_Course_heating_sum cd_Course_heating_sum ct_Course_heating_sum
      f_Course_heated_before := (He.ma K (He.ga K "Course") "heated_before")
      d_Course_heated_before := PySem.W.fnOf "heated_before" "Course.heated_before" (defArgs s_Course_heated_before) (defBody s_Course_heated_before) (defScope s_Course_heated_before) .none kV_Course_heated_before dc_Course_heated_before pm_Course_heated_before an_Course_heated_before cd_Course_heated_before ct_Course_heated_before
      f_Course_recurrence := (He.ma K (He.ga K "Course") "recurrence")
      d_Course_recurrence := PySem.W.fnOf "recurrence" "Course.recurrence" (defArgs s_Course_recurrence) (defBody s_Course_recurrence) (defScope s_Course_recurrence) .none kV_Course_recurrence dc_Course_recurrence pm_Course_recurrence an_Course_recurrence cd_Course_recurrence ct_Course_recurrence
      f_check_gain := (He.ga K "check_gain")
      d_check_gain := PySem.W.fnOf "check_gain" "check_gain" (defArgs s_check_gain) (defBody s_check_gain) (defScope s_check_gain) .none kV_check_gain dc_check_gain pm_check_gain an_check_gain cd_check_gain ct_check_gain
      f_can_be_thresholds := (He.ga K "can_be_thresholds")
      d_can_be_thresholds := PySem.W.fnOf "can_be_thresholds" "can_be_thresholds" (defArgs s_can_be_thresholds) (defBody s_can_be_thresholds) (defScope s_can_be_thresholds) .none kV_can_be_thresholds dc_can_be_thresholds pm_can_be_thresholds an_can_be_thresholds cd_can_be_thresholds ct_can_be_thresholds
      f_Heater_init := (He.ma K (He.ga K "Heater") "__init__")
      d_Heater_init := PySem.W.fnOf "__init__" "Heater.__init__" (defArgs s_Heater_init) (defBody s_Heater_init) (defScope s_Heater_init) .none kV_Heater_init dc_Heater_init pm_Heater_init an_Heater_init cd_Heater_init ct_Heater_init
      f_Room_init := (He.ma K (He.ga K "Room") "__init__")
      d_Room_init := PySem.W.fnOf "__init__" "Room.__init__" (defArgs s_Room_init) (defBody s_Room_init) (defScope s_Room_init) .none (.ref (Hq.kwA K (He.ma K (He.ga K "Room") "__init__"))) dc_Room_init pm_Room_init an_Room_init cd_Room_init ct_Room_init
      f_Room_is_on := (He.ma K (He.ga K "Room") "is_on")
      d_Room_is_on := PySem.W.fnOf "is_on" "Room.is_on" (defArgs s_Room_is_on) (defBody s_Room_is_on) (defScope s_Room_is_on) .none kV_Room_is_on dc_Room_is_on pm_Room_is_on an_Room_is_on cd_Room_is_on ct_Room_is_on
      f_Room_heating_ticks := (He.ma K (He.ga K "Room") "heating_ticks")
      d_Room_heating_ticks := PySem.W.fnOf "heating_ticks" "Room.heating_ticks" (defArgs s_Room_heating_ticks) (defBody s_Room_heating_ticks) (defScope s_Room_heating_ticks) .none kV_Room_heating_ticks dc_Room_heating_ticks pm_Room_heating_ticks an_Room_heating_ticks cd_Room_heating_ticks ct_Room_heating_ticks
      f__law_start := (He.ga K "_law_start")
      d__law_start := PySem.W.fnOf "_law_start" "_law_start" (defArgs s__law_start) (defBody s__law_start) (defScope s__law_start) .none kV__law_start dc__law_start pm__law_start an__law_start cd__law_start ct__law_start
      f__law_drawn := (He.ga K "_law_drawn")
      d__law_drawn := PySem.W.fnOf "_law_drawn" "_law_drawn" (defArgs s__law_drawn) (defBody s__law_drawn) (defScope s__law_drawn) .none kV__law_drawn dc__law_drawn pm__law_drawn an__law_drawn cd__law_drawn ct__law_drawn
      f__law_changes := (He.ga K "_law_changes")
      d__law_changes := PySem.W.fnOf "_law_changes" "_law_changes" (defArgs s__law_changes) (defBody s__law_changes) (defScope s__law_changes) .none kV__law_changes dc__law_changes pm__law_changes an__law_changes cd__law_changes ct__law_changes
      f__law_weather := (He.ga K "_law_weather")
      d__law_weather := PySem.W.fnOf "_law_weather" "_law_weather" (defArgs s__law_weather) (defBody s__law_weather) (defScope s__law_weather) .none kV__law_weather dc__law_weather pm__law_weather an__law_weather cd__law_weather ct__law_weather
      f__law_single := (He.ga K "_law_single")
      d__law_single := PySem.W.fnOf "_law_single" "_law_single" (defArgs s__law_single) (defBody s__law_single) (defScope s__law_single) .none kV__law_single dc__law_single pm__law_single an__law_single cd__law_single ct__law_single
      f__law_prices := (He.ga K "_law_prices")
      d__law_prices := PySem.W.fnOf "_law_prices" "_law_prices" (defArgs s__law_prices) (defBody s__law_prices) (defScope s__law_prices) .none kV__law_prices dc__law_prices pm__law_prices an__law_prices cd__law_prices ct__law_prices
      f__law_cents := (He.ga K "_law_cents")
      d__law_cents := PySem.W.fnOf "_law_cents" "_law_cents" (defArgs s__law_cents) (defBody s__law_cents) (defScope s__law_cents) .none kV__law_cents dc__law_cents pm__law_cents an__law_cents cd__law_cents ct__law_cents
      f__law_is_lowest := (He.ga K "_law_is_lowest")
      d__law_is_lowest := PySem.W.fnOf "_law_is_lowest" "_law_is_lowest" (defArgs s__law_is_lowest) (defBody s__law_is_lowest) (defScope s__law_is_lowest) .none kV__law_is_lowest dc__law_is_lowest pm__law_is_lowest an__law_is_lowest cd__law_is_lowest ct__law_is_lowest
      f_law := (He.ga K "law")
      d_law := PySem.W.fnOf "law" "law" (defArgs s_law) (defBody s_law) (defScope s_law) .none kV_law dc_law pm_law an_law cd_law ct_law
      f_Weather_changes := (Hq.gtA K (He.ma K (He.ga K "Weather") "changes"))
      d_Weather_changes := PySem.W.fnOf "changes" "Weather.changes" (defArgs s_Weather_changes) (defBody s_Weather_changes) (defScope s_Weather_changes) .none kV_Weather_changes dc_Weather_changes pm_Weather_changes an_Weather_changes cd_Weather_changes ct_Weather_changes
      f_Prices_cents := (Hq.gtA K (He.ma K (He.ga K "Prices") "cents"))
      d_Prices_cents := PySem.W.fnOf "cents" "Prices.cents" (defArgs s_Prices_cents) (defBody s_Prices_cents) (defScope s_Prices_cents) .none kV_Prices_cents dc_Prices_cents pm_Prices_cents an_Prices_cents cd_Prices_cents ct_Prices_cents
      f_Heater_gain := (Hq.gtA K (He.ma K (He.ga K "Heater") "gain"))
      d_Heater_gain := PySem.W.fnOf "gain" "Heater.gain" (defArgs s_Heater_gain) (defBody s_Heater_gain) (defScope s_Heater_gain) .none kV_Heater_gain dc_Heater_gain pm_Heater_gain an_Heater_gain cd_Heater_gain ct_Heater_gain
      f_Heater_low := (Hq.gtA K (He.ma K (He.ga K "Heater") "low"))
      d_Heater_low := PySem.W.fnOf "low" "Heater.low" (defArgs s_Heater_low) (defBody s_Heater_low) (defScope s_Heater_low) .none kV_Heater_low dc_Heater_low pm_Heater_low an_Heater_low cd_Heater_low ct_Heater_low
      f_Heater_high := (Hq.gtA K (He.ma K (He.ga K "Heater") "high"))
      d_Heater_high := PySem.W.fnOf "high" "Heater.high" (defArgs s_Heater_high) (defBody s_Heater_high) (defScope s_Heater_high) .none kV_Heater_high dc_Heater_high pm_Heater_high an_Heater_high cd_Heater_high ct_Heater_high
      f_Room_repetition := (Hq.gtA K (He.ma K (He.ga K "Room") "repetition"))
      d_Room_repetition := PySem.W.fnOf "repetition" "Room.repetition" (defArgs s_Room_repetition) (defBody s_Room_repetition) (defScope s_Room_repetition) .none kV_Room_repetition dc_Room_repetition pm_Room_repetition an_Room_repetition cd_Room_repetition ct_Room_repetition
      p_Weather_changes := He.ma K (He.ga K "Weather") "changes"
      p_Prices_cents := He.ma K (He.ga K "Prices") "cents"
      p_Heater_gain := He.ma K (He.ga K "Heater") "gain"
      p_Heater_low := He.ma K (He.ga K "Heater") "low"
      p_Heater_high := He.ma K (He.ga K "Heater") "high"
      p_Room_repetition := He.ma K (He.ga K "Room") "repetition" } := {
      cl_Weather := ⟨pg_Weather, hd_Weather, po_Weather, sa_Weather⟩
      mg_Weather := PySem.W.mg_of X G ns_Weather
      na_Weather__changes := na_Weather__changes
      cl_Prices := ⟨pg_Prices, hd_Prices, po_Prices, sa_Prices⟩
      mg_Prices := PySem.W.mg_of X G ns_Prices
      na_Prices__cents := na_Prices__cents
      cl_Timeline := ⟨pg_Timeline, hd_Timeline, po_Timeline, sa_Timeline⟩
      mg_Timeline := PySem.W.mg_of X G ns_Timeline
      na_Timeline_back := na_Timeline_back
      na_Timeline_last := na_Timeline_last
      na_Timeline__begins := na_Timeline__begins
      cl_HeatingSum := ⟨pg_HeatingSum, hd_HeatingSum, po_HeatingSum, sa_HeatingSum⟩
      mg_HeatingSum := PySem.W.mg_of X G ns_HeatingSum
      na_HeatingSum__on := na_HeatingSum__on
      na_HeatingSum__amounts := na_HeatingSum__amounts
      na_HeatingSum__timeline := na_HeatingSum__timeline
      na_HeatingSum__sums := na_HeatingSum__sums
      cl_Drift := ⟨pg_Drift, hd_Drift, po_Drift, sa_Drift⟩
      mg_Drift := PySem.W.mg_of X G ns_Drift
      na_Drift_round_ticks := na_Drift_round_ticks
      na_Drift_round_sum := na_Drift_round_sum
      na_Drift__sums := na_Drift__sums
      cl_Stretch := ⟨pg_Stretch, hd_Stretch, po_Stretch, sa_Stretch⟩
      mg_Stretch := PySem.W.mg_of X G ns_Stretch
      na_Stretch_on := na_Stretch_on
      na_Stretch_begin := na_Stretch_begin
      na_Stretch__drifts := na_Stretch__drifts
      na_Stretch__drift := na_Stretch__drift
      na_Stretch__base := na_Stretch__base
      cl_Course := ⟨pg_Course, hd_Course, po_Course, sa_Course⟩
      mg_Course := PySem.W.mg_of X G ns_Course
      na_Course__low := na_Course__low
      na_Course__high := na_Course__high
      na_Course__stretches := na_Course__stretches
      na_Course__timeline := na_Course__timeline
      na_Course__heating := na_Course__heating
      cl_Heater := ⟨pg_Heater, hd_Heater, po_Heater, sa_Heater⟩
      mg_Heater := PySem.W.mg_of X G ns_Heater
      na_Heater__gain := na_Heater__gain
      na_Heater__low := na_Heater__low
      na_Heater__high := na_Heater__high
      cl_Room := ⟨pg_Room, hd_Room, po_Room, sa_Room⟩
      mg_Room := PySem.W.mg_of X G ns_Room
      na_Room__weather := na_Room__weather
      na_Room__heater := na_Room__heater
      na_Room__start := na_Room__start
      na_Room_course := na_Room_course
      na_Room__unswitched := na_Room__unswitched
      F_check_number := fun_mk (st := s_check_number) lk_check_number co_check_number kp_check_number
      mg_check_number := PySem.W.mg_of X G at_check_number
      F_first_invalid := fun_mk (st := s_first_invalid) lk_first_invalid co_first_invalid kp_first_invalid
      mg_first_invalid := PySem.W.mg_of X G at_first_invalid
      F_sum_of_first := fun_mk (st := s_sum_of_first) lk_sum_of_first co_sum_of_first kp_sum_of_first
      mg_sum_of_first := PySem.W.mg_of X G at_sum_of_first
      F_added_rounds := fun_mk (st := s_added_rounds) lk_added_rounds co_added_rounds kp_added_rounds
      mg_added_rounds := PySem.W.mg_of X G at_added_rounds
      F_Weather_init := fun_mk (st := s_Weather_init) lk_Weather_init co_Weather_init kp_Weather_init
      mk_Weather := ⟨mk_Weather, at_Weather_init, fn_Weather_init, kc_Weather⟩
      F_Weather_len := fun_mk (st := s_Weather_len) lk_Weather_len co_Weather_len kp_Weather_len
      me_Weather_len := ⟨at_Weather_len, fn_Weather_len, kp_Weather_len⟩
      F_Weather_add := fun_mk (st := s_Weather_add) lk_Weather_add co_Weather_add kp_Weather_add
      me_Weather_add := ⟨at_Weather_add, fn_Weather_add, kp_Weather_add⟩
      F_Weather_mul := fun_mk (st := s_Weather_mul) lk_Weather_mul co_Weather_mul kp_Weather_mul
      me_Weather_mul := ⟨at_Weather_mul, fn_Weather_mul, kp_Weather_mul⟩
      F_Prices_init := fun_mk (st := s_Prices_init) lk_Prices_init co_Prices_init kp_Prices_init
      mk_Prices := ⟨mk_Prices, at_Prices_init, fn_Prices_init, kc_Prices⟩
      F_heating_cost := fun_mk (st := s_heating_cost) lk_heating_cost co_heating_cost kp_heating_cost
      mg_heating_cost := PySem.W.mg_of X G at_heating_cost
      F_first_over := fun_mk (st := s_first_over) lk_first_over co_first_over kp_first_over
      mg_first_over := PySem.W.mg_of X G at_first_over
      F_cost_share := fun_mk (st := s_cost_share) lk_cost_share co_cost_share kp_cost_share
      mg_cost_share := PySem.W.mg_of X G at_cost_share
      F_lowest_terms := fun_mk (st := s_lowest_terms) lk_lowest_terms co_lowest_terms kp_lowest_terms
      mg_lowest_terms := PySem.W.mg_of X G at_lowest_terms
      F_Timeline_init := fun_mk (st := s_Timeline_init) lk_Timeline_init co_Timeline_init kp_Timeline_init
      mk_Timeline := ⟨mk_Timeline, at_Timeline_init, fn_Timeline_init, kc_Timeline⟩
      F_Timeline_ticks_of_round := fun_mk (st := s_Timeline_ticks_of_round) lk_Timeline_ticks_of_round co_Timeline_ticks_of_round kp_Timeline_ticks_of_round
      me_Timeline_ticks_of_round := ⟨at_Timeline_ticks_of_round, fn_Timeline_ticks_of_round, kp_Timeline_ticks_of_round⟩
      F_Timeline_begin_of := fun_mk (st := s_Timeline_begin_of) lk_Timeline_begin_of co_Timeline_begin_of kp_Timeline_begin_of
      me_Timeline_begin_of := ⟨at_Timeline_begin_of, fn_Timeline_begin_of, kp_Timeline_begin_of⟩
      F_Timeline_place := fun_mk (st := s_Timeline_place) lk_Timeline_place co_Timeline_place kp_Timeline_place
      me_Timeline_place := ⟨at_Timeline_place, fn_Timeline_place, kp_Timeline_place⟩
      F_Timeline_number_at := fun_mk (st := s_Timeline_number_at) lk_Timeline_number_at co_Timeline_number_at kp_Timeline_number_at
      me_Timeline_number_at := ⟨at_Timeline_number_at, fn_Timeline_number_at, kp_Timeline_number_at⟩
      F_Timeline_in_rounds_of := fun_mk (st := s_Timeline_in_rounds_of) lk_Timeline_in_rounds_of co_Timeline_in_rounds_of kp_Timeline_in_rounds_of
      me_Timeline_in_rounds_of := ⟨at_Timeline_in_rounds_of, fn_Timeline_in_rounds_of, kp_Timeline_in_rounds_of⟩
      F_HeatingSum_init := fun_mk (st := s_HeatingSum_init) lk_HeatingSum_init co_HeatingSum_init kp_HeatingSum_init
      mk_HeatingSum := ⟨mk_HeatingSum, at_HeatingSum_init, fn_HeatingSum_init, kc_HeatingSum⟩
      F_HeatingSum_is_on := fun_mk (st := s_HeatingSum_is_on) lk_HeatingSum_is_on co_HeatingSum_is_on kp_HeatingSum_is_on
      me_HeatingSum_is_on := ⟨at_HeatingSum_is_on, fn_HeatingSum_is_on, kp_HeatingSum_is_on⟩
      F_HeatingSum_sum_within := fun_mk (st := s_HeatingSum_sum_within) lk_HeatingSum_sum_within co_HeatingSum_sum_within kp_HeatingSum_sum_within
      me_HeatingSum_sum_within := ⟨at_HeatingSum_sum_within, fn_HeatingSum_sum_within, kp_HeatingSum_sum_within⟩
      F_HeatingSum_sum_before := fun_mk (st := s_HeatingSum_sum_before) lk_HeatingSum_sum_before co_HeatingSum_sum_before kp_HeatingSum_sum_before
      me_HeatingSum_sum_before := ⟨at_HeatingSum_sum_before, fn_HeatingSum_sum_before, kp_HeatingSum_sum_before⟩
      F_HeatingSum_sum_of_round := fun_mk (st := s_HeatingSum_sum_of_round) lk_HeatingSum_sum_of_round co_HeatingSum_sum_of_round kp_HeatingSum_sum_of_round
      me_HeatingSum_sum_of_round := ⟨at_HeatingSum_sum_of_round, fn_HeatingSum_sum_of_round, kp_HeatingSum_sum_of_round⟩
      F_HeatingSum_share := fun_mk (st := s_HeatingSum_share) lk_HeatingSum_share co_HeatingSum_share kp_HeatingSum_share
      me_HeatingSum_share := ⟨at_HeatingSum_share, fn_HeatingSum_share, kp_HeatingSum_share⟩
      F_Drift_init := fun_mk (st := s_Drift_init) lk_Drift_init co_Drift_init kp_Drift_init
      mk_Drift := ⟨mk_Drift, at_Drift_init, fn_Drift_init, kc_Drift⟩
      F_Drift_sum_to := fun_mk (st := s_Drift_sum_to) lk_Drift_sum_to co_Drift_sum_to kp_Drift_sum_to
      me_Drift_sum_to := ⟨at_Drift_sum_to, fn_Drift_sum_to, kp_Drift_sum_to⟩
      F_both_drifts := fun_mk (st := s_both_drifts) lk_both_drifts co_both_drifts kp_both_drifts
      mg_both_drifts := PySem.W.mg_of X G at_both_drifts
      F_Stretch_init := fun_mk (st := s_Stretch_init) lk_Stretch_init co_Stretch_init kp_Stretch_init
      mk_Stretch := ⟨mk_Stretch, at_Stretch_init, fn_Stretch_init, kc_Stretch⟩
      F_Stretch_degrees_at := fun_mk (st := s_Stretch_degrees_at) lk_Stretch_degrees_at co_Stretch_degrees_at kp_Stretch_degrees_at
      me_Stretch_degrees_at := ⟨at_Stretch_degrees_at, fn_Stretch_degrees_at, kp_Stretch_degrees_at⟩
      F_Stretch_begin_state := fun_mk (st := s_Stretch_begin_state) lk_Stretch_begin_state co_Stretch_begin_state kp_Stretch_begin_state
      me_Stretch_begin_state := ⟨at_Stretch_begin_state, fn_Stretch_begin_state, kp_Stretch_begin_state⟩
      F_Stretch_switched := fun_mk (st := s_Stretch_switched) lk_Stretch_switched co_Stretch_switched kp_Stretch_switched
      me_Stretch_switched := ⟨at_Stretch_switched, fn_Stretch_switched, kp_Stretch_switched⟩
      F_Stretch_level_ticks := fun_mk (st := s_Stretch_level_ticks) lk_Stretch_level_ticks co_Stretch_level_ticks kp_Stretch_level_ticks
      me_Stretch_level_ticks := ⟨at_Stretch_level_ticks, fn_Stretch_level_ticks, kp_Stretch_level_ticks⟩
      F_Stretch_first_beyond := fun_mk (st := s_Stretch_first_beyond) lk_Stretch_first_beyond co_Stretch_first_beyond kp_Stretch_first_beyond
      me_Stretch_first_beyond := ⟨at_Stretch_first_beyond, fn_Stretch_first_beyond, kp_Stretch_first_beyond⟩
      F_heater_state := fun_mk (st := s_heater_state) lk_heater_state co_heater_state kp_heater_state
      mg_heater_state := PySem.W.mg_of X G at_heater_state
      F_Course_init := fun_mk (st := s_Course_init) lk_Course_init co_Course_init kp_Course_init
      mk_Course := ⟨mk_Course, at_Course_init, fn_Course_init, kc_Course⟩
      F_Course_follow := fun_mk (st := s_Course_follow) lk_Course_follow co_Course_follow kp_Course_follow
      me_Course_follow := ⟨at_Course_follow, fn_Course_follow, kp_Course_follow⟩
      F_Course_end_of := fun_mk (st := s_Course_end_of) lk_Course_end_of co_Course_end_of kp_Course_end_of
      me_Course_end_of := ⟨at_Course_end_of, fn_Course_end_of, kp_Course_end_of⟩
      F_Course_on_in := fun_mk (st := s_Course_on_in) lk_Course_on_in co_Course_on_in kp_Course_on_in
      me_Course_on_in := ⟨at_Course_on_in, fn_Course_on_in, kp_Course_on_in⟩
      F_Course_heating_sum := fun_mk (st := s_Course_heating_sum) lk_Course_heating_sum co_Course_heating_sum kp_Course_heating_sum
      me_Course_heating_sum := ⟨at_Course_heating_sum, fn_Course_heating_sum, kp_Course_heating_sum⟩
      F_Course_heated_before := fun_mk (st := s_Course_heated_before) lk_Course_heated_before co_Course_heated_before kp_Course_heated_before
      me_Course_heated_before := ⟨at_Course_heated_before, fn_Course_heated_before, kp_Course_heated_before⟩
      F_Course_recurrence := fun_mk (st := s_Course_recurrence) lk_Course_recurrence co_Course_recurrence kp_Course_recurrence
      me_Course_recurrence := ⟨at_Course_recurrence, fn_Course_recurrence, kp_Course_recurrence⟩
      F_check_gain := fun_mk (st := s_check_gain) lk_check_gain co_check_gain kp_check_gain
      mg_check_gain := PySem.W.mg_of X G at_check_gain
      F_can_be_thresholds := fun_mk (st := s_can_be_thresholds) lk_can_be_thresholds co_can_be_thresholds kp_can_be_thresholds
      mg_can_be_thresholds := PySem.W.mg_of X G at_can_be_thresholds
      F_Heater_init := fun_mk (st := s_Heater_init) lk_Heater_init co_Heater_init kp_Heater_init
      mk_Heater := ⟨mk_Heater, at_Heater_init, fn_Heater_init, kc_Heater⟩
      F_Room_init := ⟨⟨_, _, _, _, _, _, _, _, _, _, rfl, lk_Room_init, co_Room_init, .inl ⟨rfl, rfl⟩, .inr ⟨_, rfl, fun q hq => by obtain rfl := List.mem_singleton.mp hq; exact ⟨_, kd_Room_init, rfl⟩⟩⟩, kp_Room_init⟩
      mk_Room := ⟨mk_Room, at_Room_init, fn_Room_init, kc_Room⟩
      F_Room_is_on := fun_mk (st := s_Room_is_on) lk_Room_is_on co_Room_is_on kp_Room_is_on
      me_Room_is_on := ⟨at_Room_is_on, fn_Room_is_on, kp_Room_is_on⟩
      F_Room_heating_ticks := fun_mk (st := s_Room_heating_ticks) lk_Room_heating_ticks co_Room_heating_ticks kp_Room_heating_ticks
      me_Room_heating_ticks := ⟨at_Room_heating_ticks, fn_Room_heating_ticks, kp_Room_heating_ticks⟩
      F__law_start := fun_mk (st := s__law_start) lk__law_start co__law_start kp__law_start
      mg__law_start := PySem.W.mg_of X G at__law_start
      F__law_drawn := fun_mk (st := s__law_drawn) lk__law_drawn co__law_drawn kp__law_drawn
      mg__law_drawn := PySem.W.mg_of X G at__law_drawn
      F__law_changes := fun_mk (st := s__law_changes) lk__law_changes co__law_changes kp__law_changes
      mg__law_changes := PySem.W.mg_of X G at__law_changes
      F__law_weather := fun_mk (st := s__law_weather) lk__law_weather co__law_weather kp__law_weather
      mg__law_weather := PySem.W.mg_of X G at__law_weather
      F__law_single := fun_mk (st := s__law_single) lk__law_single co__law_single kp__law_single
      mg__law_single := PySem.W.mg_of X G at__law_single
      F__law_prices := fun_mk (st := s__law_prices) lk__law_prices co__law_prices kp__law_prices
      mg__law_prices := PySem.W.mg_of X G at__law_prices
      F__law_cents := fun_mk (st := s__law_cents) lk__law_cents co__law_cents kp__law_cents
      mg__law_cents := PySem.W.mg_of X G at__law_cents
      F__law_is_lowest := fun_mk (st := s__law_is_lowest) lk__law_is_lowest co__law_is_lowest kp__law_is_lowest
      mg__law_is_lowest := PySem.W.mg_of X G at__law_is_lowest
      F_law := fun_mk (st := s_law) lk_law co_law kp_law
      mg_law := PySem.W.mg_of X G at_law
      pr_Weather_changes := ⟨at_Weather_changes, gt_Weather_changes, tk_Weather_changes, _, rc_Weather_changes⟩
      F_Weather_changes := fun_mk (st := s_Weather_changes) lk_Weather_changes co_Weather_changes kp_Weather_changes
      pr_Prices_cents := ⟨at_Prices_cents, gt_Prices_cents, tk_Prices_cents, _, rc_Prices_cents⟩
      F_Prices_cents := fun_mk (st := s_Prices_cents) lk_Prices_cents co_Prices_cents kp_Prices_cents
      pr_Heater_gain := ⟨at_Heater_gain, gt_Heater_gain, tk_Heater_gain, _, rc_Heater_gain⟩
      F_Heater_gain := fun_mk (st := s_Heater_gain) lk_Heater_gain co_Heater_gain kp_Heater_gain
      pr_Heater_low := ⟨at_Heater_low, gt_Heater_low, tk_Heater_low, _, rc_Heater_low⟩
      F_Heater_low := fun_mk (st := s_Heater_low) lk_Heater_low co_Heater_low kp_Heater_low
      pr_Heater_high := ⟨at_Heater_high, gt_Heater_high, tk_Heater_high, _, rc_Heater_high⟩
      F_Heater_high := fun_mk (st := s_Heater_high) lk_Heater_high co_Heater_high kp_Heater_high
      pr_Room_repetition := ⟨at_Room_repetition, gt_Room_repetition, tk_Room_repetition, _, rc_Room_repetition⟩
      F_Room_repetition := fun_mk (st := s_Room_repetition) lk_Room_repetition co_Room_repetition kp_Room_repetition
      mg_MOST_TICKS := ⟨_, PySem.W.mg_of X G gl_MOST_TICKS⟩
      mg_MOST_GAIN := ⟨_, PySem.W.mg_of X G gl_MOST_GAIN⟩
      mg_MOST_DEGREES := ⟨_, PySem.W.mg_of X G gl_MOST_DEGREES⟩
      mg_MOST_BUDGET := ⟨_, PySem.W.mg_of X G gl_MOST_BUDGET⟩
      mg_gcd := PySem.W.mg_of X G gl_gcd
      mg_lcm := PySem.W.mg_of X G gl_lcm
      z_divmod := PySem.W.mg_none_of X G z_divmod
      z_enumerate := PySem.W.mg_none_of X G z_enumerate
      z_int := PySem.W.mg_none_of X G z_int
      z_len := PySem.W.mg_none_of X G z_len
      z_min := PySem.W.mg_none_of X G z_min
      z_range := PySem.W.mg_none_of X G z_range
      z_sum := PySem.W.mg_none_of X G z_sum
      cv_Prices_MAX_PRICE := ⟨_, ⟨cv_Prices_MAX_PRICE, ⟨_, rfl⟩, gg_Prices_MAX_PRICE, by decide +kernel⟩⟩
      cv_Prices_MAX_TICKS := ⟨_, ⟨cv_Prices_MAX_TICKS, ⟨_, rfl⟩, gg_Prices_MAX_TICKS, by decide +kernel⟩⟩
      cv_Weather_MAX_CHANGE := ⟨_, ⟨cv_Weather_MAX_CHANGE, ⟨_, rfl⟩, gg_Weather_MAX_CHANGE, by decide +kernel⟩⟩
      cv_Weather_MAX_TICKS := ⟨_, ⟨cv_Weather_MAX_TICKS, ⟨_, rfl⟩, gg_Weather_MAX_TICKS, by decide +kernel⟩⟩ }
  have WM : ∀ {b : Ad}, Txt K mg b → b.c_Weather = He.ga K "Weather" → b.f_Weather_mul = He.ma K (He.ga K "Weather") "__mul__" → WMu K b := fun _ e g => wM_of e g (h_wm c)
  refine ⟨PySem.W.fnOf "law" "law" (defArgs s_law) (defBody s_law) (defScope s_law) .none kV_law dc_law pm_law an_law cd_law ct_law, [], spLawK K, (fun p hp => by cases hp), (fun p hp => by cases hp), (fun p hp => by cases hp), fun s v => .of_eq rfl, fun H a ns hl _ hT hS => ⟨a, ns, rfl, hS, hl, fun _ => rfl⟩, fun base _ _ TB => ?_⟩
  rw [ea]; exact ok_law T (WM T rfl rfl)
end W6

open PySem PySem.W PySem.Calls PyProof.Rows
set_option maxHeartbeats 0 in
theorem PySem.Challenge.cw_warmswitch_k45_whole_far_costs_holds : PySem.Challenge.rw_warmswitch_k45_whole_far_costs.Holds := by
  w_on; o_law
  refine HandSHeadRun.head_imp (r := OpenLaw.row PySem.Challenge.rw_warmswitch_k45_whole_far_costs) (q := W6.hV) (H := W6.hk) (ob := W6.hob) (M := 40000) (loose := W6.hn) (d := HandSHeadRun.topDef (OpenLaw.row PySem.Challenge.rw_warmswitch_k45_whole_far_costs).prog 51) (kwd := []) W6.hob_eq
    W6.hrun (by kernel_rfl) (by kernel_rfl) (by kernel_rfl) (by rfl) (by first | assumption | decide +kernel) (by decide +kernel) ⟨rfl, rfl, rfl, rfl, rfl, by decide +kernel⟩ ?hw ?hc
  case hw => w_witness2
  case hc =>
    refine Hq2.walk_tab (l := PySem.Challenge.rw_warmswitch_k45_whole_far_costs) (n := 63) (k := 11) (x := "_law_script") (CX := fun _ => L2.CX0) rfl (by decide) (by kernel_rfl) ⟨rfl, by decide, by decide⟩ ?F (fun _ _ _ _ _ z => z)
    intro w mg fa h Y G hmg0
    obtain ⟨K, KX, c⟩ := Y
    have hmg : mg ("law" : PySem.Str) = some (.ref fa) := by
      have e : (HandSHeadRun.topDef (OpenLaw.row PySem.Challenge.rw_warmswitch_k45_whole_far_costs).prog 51).name = ("law" : PySem.Str) := by kernel_rfl
      rw [← e]
      exact hmg0
    exact ⟨K, KX, W6.hfacts KX G hmg c⟩
#print axioms PySem.Challenge.cw_warmswitch_k45_whole_far_costs_holds

