import PyProof.Rows.All
import Wide.All
import OpenK.AllK
import Wide.FinOn
import HandS.ForMost
import KE.KTupSum
import KE.GoesMore
import HandS.SortKw
import KE.DataMinMax
import KE.KDictCopyH
import KE.KDictKeyed
import KE.KDictLaw
import HandS.GenList
import HandS.Comp
import HandS.List
import HandS.Codes
import HandS.Words
import PyProof.FString
import KE.KExcSuper
import HandS.Base
import HandS.Call
import HandS.Exc
import PyProof.EqAt
import KE.KExcIs
import HandS.ExcIs
import HandS.TryOnly
import HandS.Lambda
import KE.KDflt
import PyProof.SeqRoads
import HandS.NamedTup0
import HandS.NamedTupGet
import HandS.Star
import HandS.ClsMeth
import KE.KMathGC
import PyProof.InstNe
import HandS.TupMul
import HandS.OwnEq
import KE.KOpsOwn
import HandS.SlotsOwn
import HandS.Nested
import HandS.More
import KE.KSuper
import PySem.Challenge.RW_warmswitch_k41_settings_tick_by_tick
import HandS.Property
import HandS.MakeKwOnly
import HandS.Gcd
import HandS.WideBits
import HandS.Wide
import HandS.TupAny
import HandS.Style
import HandS.Iter
import HandS.IsInst
import HandS.WordsExc
import KE.KStateDown
import HandS.Head0
import HandS.Head1
import HandS.Head2
import HandS.Head3
import HandS.HeadEnd
import HandS.HeadHook1
import HandS.HeadHook2
import KE.KNestM
import HandS.HeadHook4
import HandS.HeadNt
import HandS.EndTab
import OpenK.KMeth
import KE.KCallOwn
import HandS.CallLocal
import HandS.ExcOwn
set_option Elab.async false
set_option linter.all false
set_option maxRecDepth 100000
/-! more rules over the hand layer: a chain of three comparisons, sum of a tuple, enumerate of a tuple -/
namespace Ru
open PySem PySem.Spec PyProof.Rows L2
section
variable {X : Cx} {a b c d : Expr} {ta tb tc td : TE} {pos : Pos}
/-- a op1 b op2 c op3 d, each answer a truth value; behind a False the rest isn't asked -/
def tCh3 (r1 r2 r3 : R2) (ta tb tc td : TE) : TT := fun σ H Q => ta σ H fun x H1 => tb σ H1 fun y H2 => r1 x y H2 fun z H3 => ∃ k, z = .bl k ∧
  (if k = true then tc σ H3 fun u H4 => r2 y u H4 fun z2 H5 => ∃ k2, z2 = .bl k2 ∧ (if k2 = true then td σ H5 fun v H6 => r3 u v H6 fun z3 H7 => ∃ k3, z3 = .bl k3 ∧ Q k3 H7 else Q false H5) else Q false H3)
theorem pt_ch3 {o1 o2 o3 : CmpOp} {r1 r2 r3 : R2} (h1 : OpR X (compareOp o1) r1) (h2 : OpR X (compareOp o2) r2) (h3 : OpR X (compareOp o3) r3) (ha : PE X a ta) (hb : PE X b tb) (hc : PE X c tc) (hd : PE X d td)
    (hm : lastMarks [o1, o2, o3] [b, c, d] = false := by with_unfolding_all rfl) : PT X (.Compare a [o1, o2, o3] [b, c, d] pos) (tCh3 r1 r2 r3 ta tb tc td) :=
  ⟨fun pins s σ H Q I h => isTrue_chain (thn (ha.run pins s σ H _ I h) fun va s1 ⟨x, H1, I1, e1, g1⟩ => test_link (thn (hb.run pins s1 σ H1 _ I1 g1) fun vb s2 ⟨y, H2, I2, e2, g2⟩ =>
    thn (h1 pins s2 σ H2 x y va vb _ I2 e1 e2 g2) fun w1 s3 ⟨z, H3, I3, e3, k, ek, g3⟩ => by
      subst ek; cases e3
      refine wpAny_truthy_bool ?_
      cases k with
      | false => exact ite_ff ⟨H3, I3, g3⟩
      | true =>
        exact ite_tt (test_link (thn (hc.run pins s3 σ H3 _ I3 g3) fun vc s4 ⟨u, H4, I4, e4, g4⟩ => thn (h2 pins s4 σ H4 y u vb vc _ I4 e2 e4 g4) fun w2 s5 ⟨z2, H5, I5, e5, k2, ek2, g5⟩ => by
          subst ek2; cases e5
          refine wpAny_truthy_bool ?_
          cases k2 with
          | false => exact ite_ff ⟨H5, I5, g5⟩
          | true =>
            exact ite_tt (test_last (thn (hd.run pins s5 σ H5 _ I5 g5) fun vd s6 ⟨v, H6, I6, e6, g6⟩ => thn (h3 pins s6 σ H6 u v vc vd _ I6 e4 e6 g6) fun w3 s7 ⟨z3, H7, I7, e7, k3, ek3, g7⟩ => by
              subst ek3; cases e7
              exact wpAny_truthy_bool ⟨H7, I7, g7⟩)))))) hm⟩
/-- the same as a value -/
def tCh3v (r1 r2 r3 : R2) (ta tb tc td : TE) : TE := fun σ H Q => ta σ H fun x H1 => tb σ H1 fun y H2 => r1 x y H2 fun z H3 => ∃ k, z = .bl k ∧
  (if k = true then tc σ H3 fun u H4 => r2 y u H4 fun z2 H5 => ∃ k2, z2 = .bl k2 ∧ (if k2 = true then td σ H5 fun v H6 => r3 u v H6 Q else Q (.bl false) H5) else Q (.bl false) H3)
theorem pe_ch3 {o1 o2 o3 : CmpOp} {r1 r2 r3 : R2} (h1 : OpR X (compareOp o1) r1) (h2 : OpR X (compareOp o2) r2) (h3 : OpR X (compareOp o3) r3) (ha : PE X a ta) (hb : PE X b tb) (hc : PE X c tc) (hd : PE X d td)
    (hm : lastMarks [o1, o2, o3] [b, c, d] = false := by with_unfolding_all rfl) : PE X (.Compare a [o1, o2, o3] [b, c, d] pos) (tCh3v r1 r2 r3 ta tb tc td) :=
  ⟨fun pins s σ H Q I h => Compare_chain (thn (ha.run pins s σ H _ I h) fun va s1 ⟨x, H1, I1, e1, g1⟩ => chain_link (thn (hb.run pins s1 σ H1 _ I1 g1) fun vb s2 ⟨y, H2, I2, e2, g2⟩ =>
    thn (h1 pins s2 σ H2 x y va vb _ I2 e1 e2 g2) fun w1 s3 ⟨z, H3, I3, e3, k, ek, g3⟩ => by
      subst ek; cases e3
      refine wpAny_truthy_bool ?_
      cases k with
      | false => exact ite_ff ⟨.bl false, H3, I3, rfl, g3⟩
      | true =>
        exact ite_tt (chain_link (thn (hc.run pins s3 σ H3 _ I3 g3) fun vc s4 ⟨u, H4, I4, e4, g4⟩ => thn (h2 pins s4 σ H4 y u vb vc _ I4 e2 e4 g4) fun w2 s5 ⟨z2, H5, I5, e5, k2, ek2, g5⟩ => by
          subst ek2; cases e5
          refine wpAny_truthy_bool ?_
          cases k2 with
          | false => exact ite_ff ⟨.bl false, H5, I5, rfl, g5⟩
          | true => exact ite_tt (chain_last (thn (hd.run pins s5 σ H5 _ I5 g5) fun vd s6 ⟨v, H6, I6, e6, g6⟩ => h3 pins s6 σ H6 u v vc vd Q I6 e4 e6 g6)))))) hm⟩
/-- sum(t), t a tuple of ints -/
def rSumT (K : PySem.W.Frag) : List V → Hp → VK → Prop := fun vs H Q => ∃ (p : Addr) (ns : List Int), vs = [V.ref p] ∧ SqT K H p (ns.map V.int) ∧ Q (.int ns.sum) H
theorem cr_sumT (hc : X.calm = true) : CallR X (.builtin "sum") (rSumT X.K) := fun pins s σ H vs us Q I r h => by
  obtain ⟨p, ns, rfl, hs, g⟩ := h
  obtain ⟨its, rv, ht, _⟩ := I.tuple hs
  rw [Vals.ref1 r]
  obtain ⟨xs, ex⟩ := rv.ints.allInts.items
  have en : numsOf (intItems xs).toList = ns := by rw [← ex]; exact rv.ints.numsOf
  rw [nums_intItems] at en
  rw [ex] at ht
  refine PySem.W.ktm_sumG (I.ok.hd hc) ht fun h' tk t' hk => ⟨.int _, H, I.kept hk, ⟨t', ?_⟩, g⟩
  rw [preSum_eq, List.take_of_length_le (by simp), en]
end
/-! ### enumerate(t), t a tuple -/
theorem enum_newT (l : Addr) (items : Array Value) (n : Nat) (dct : Option Addr) (sl : Array (Option Value)) :
    Meets (Builtin.«enumerate.__new__» ⟨[.type "enumerate", .ref l], []⟩) (fun _ R s => s.heap.get? l = some { cls := .type "tuple", dict := dct, data := .seq items n, slots := sl } ∧
      R (.ok (.ret (.ref (s.heap.push { cls := .type "tuple_iterator", data := .fields #[.ref l, .int 0 0] }).objs.size)))
        { s with heap := (s.heap.push { cls := .type "tuple_iterator", data := .fields #[.ref l, .int 0 0] }).push { cls := .type "enumerate", data := .fields #[.none, .bool false, .ref s.heap.objs.size, rawInt 0, .none, .none] } }) :=
  .of_wp fun prog w A R s hyp => by
    obtain ⟨hp, g, d, tk, os⟩ := s; obtain ⟨hl, hyp⟩ := hyp
    have hsub := sub_enumerate
    have isT : Heap.IsTuple (Shared.heap ⟨hp, g, d, tk, os⟩) l items := ⟨_, hl, rfl, n, rfl⟩
    wp_walk using AutoSeq1.wpAny_loadPart' hl
    refine wpAny_stack_any fun st => wpAny_pure ?_
    split
    · rename_i c _ _ _ _ _
      cases (c == Value.type "enumerate")
      · wp_walk using AutoSeq1.wpAny_loadPart' hl, wpAny_pyIter_tuple isT
        exact ⟨_, rfl, hyp⟩
      · wp_walk using AutoSeq1.wpAny_loadPart' hl, wpAny_pyIter_tuple isT
        exact ⟨_, rfl, hyp⟩
    · wp_walk using AutoSeq1.wpAny_loadPart' hl, wpAny_pyIter_tuple isT
      exact ⟨_, rfl, hyp⟩
section
variable {prog : Program} {w : World} {A : Around} {E : Value → Shared → Prop} {s : Shared}
theorem enum_tuple {l : Addr} {items : Array Value} {Q : Value → Shared → Prop} (ht : s.heap.IsTuple l items)
    (h : ∀ h', IsEnum h' (s.heap.objs.size + 1) s.heap.objs.size 0 .none → h'.IsTupleIter s.heap.objs.size l 0 → (∀ b o, s.heap.get? b = some o → h'.get? b = some o) → Q (.ref (s.heap.objs.size + 1)) { s with heap := h' }) :
    wpAny (model prog w) A (call (.type "enumerate") [.ref l]) Q E s := by
  obtain ⟨⟨c, dct, dt, sl⟩, hl, hc, n, hd⟩ := ht
  obtain rfl : c = .type "tuple" := hc
  obtain rfl : dt = .seq items n := hd
  refine callType_new F.called_enumerate (by decide) (F.typeCall_enumerate_1 _) (F.newCall_enumerate_1 _) (fun obj => F.args_object_init_2 obj _) F.entry_enumerate_new (enum_newT l items n dct sl) ⟨hl, ?_⟩
  generalize ei : ({ cls := .type "tuple_iterator", data := .fields #[.ref l, .int 0 0] } : Obj) = oi
  have hz : (s.heap.push oi).objs.size = s.heap.objs.size + 1 := Heap.size_push ..
  show _ ∧ _
  rw [hz]
  have g : IsEnum ((s.heap.push oi).push { cls := .type "enumerate", data := .fields #[.none, .bool false, .ref s.heap.objs.size, rawInt 0, .none, .none] }) (s.heap.objs.size + 1) s.heap.objs.size 0 .none := by
    have q := Heap.get?_push_size (s.heap.push oi) (o := { cls := .type "enumerate", data := .fields #[.none, .bool false, .ref s.heap.objs.size, rawInt 0, .none, .none] }) rfl
    rw [hz] at q; exact q
  subst ei
  exact ⟨⟨_, g, rfl⟩, h _ g ⟨_, Heap.get?_push_of_some _ (Heap.get?_push_size _ rfl), rfl, rfl⟩ fun b o y => Heap.get?_push_of_some _ (Heap.get?_push_of_some _ y)⟩
end
/-- the tuple of n items at a, each item in a new pair -/
def IteT (K : PySem.W.Frag) (a : Addr) (n : Nat) : It :=
  ⟨fun i H => i < n ∧ ∃ xs : List V, SqT K H a xs ∧ xs.length = n, fun i H v H' => ∃ T x, v = .ref T ∧ H T = none ∧ H' = upd H T (.tup [.int (i : Nat), x]) ∧ ∀ xs, SqT K H a xs → xs[i]? = some x, fun i H => n ≤ i ∧ ∃ xs : List V, SqT K H a xs ∧ xs.length = n⟩
theorem turn_enumT {P : Program} {w : World} {K : PySem.W.Frag} {elts : List Expr} {kk : Nat} {tpos : Pos} (a n e it : Addr) :
    Turn P w K (.Tuple elts kk tpos) (IteT K a n) [e, it] e (fun i h => (∃ old, IsEnum h e it ((i : Nat) : Int) old) ∧ h.IsTupleIter it a i ∧ e ≠ it ∧ a ≠ it ∧ e ≠ a ∧ i ≤ n) where
  mem := by simp
  obj := fun i h ⟨⟨old, he⟩, ⟨o, ho, hc, hd⟩, _⟩ b hb => by
    rcases List.mem_cons.mp hb with rfl | hb
    · exact ⟨_, he, fun v q => nomatch q⟩
    · obtain rfl := List.mem_singleton.mp hb
      exact ⟨o, ho, fun v q => by rw [hd] at q; cases q⟩
  keep := fun i h h' ⟨⟨old, he⟩, ⟨o, ho, hc, hd⟩, hne⟩ k => ⟨⟨old, k e (by simp) _ he⟩, ⟨o, k it (by simp) _ ho, hc, hd⟩, hne⟩
  item := by
    intro X hP hw hK hc i pins s σ H E I hf st hg
    subst hP hw hK
    obtain ⟨⟨old, he⟩, hit, hne, hai, hea, hin⟩ := st
    obtain ⟨hlt0, xs, hq, hn⟩ := hg
    obtain ⟨x, hx⟩ : ∃ x, xs[i]? = some x := ⟨xs[i], by simp [hn, hlt0]⟩
    obtain ⟨its, rv, ht, hz⟩ := I.tuple hq
    obtain ⟨u, hu, ru⟩ := rv.get hx
    have el : e < s.heap.objs.size := Heap.lt_size he
    have il : it < s.heap.objs.size := by obtain ⟨_, q, _⟩ := hit; exact Heap.lt_size q
    have D := Draws.tuple (prog := X.prog) (w := X.w) (A := X.A.in1) (I.ok.hd hc) it a hai its.toArray
    have hlt : i < its.toArray.size := by
      have := (List.getElem?_eq_some_iff.mp hu).1
      simpa using this
    refine wpAny_pyNext_enum_itemD D he ⟨hit, ht⟩ hlt hne (by simp [hne, hea]) fun x' h' tk hP ho st' hT hsz hk => ?_
    have ex : x' = u := by
      have q : its[i]? = some x' := by simpa using hP
      rw [hu] at q; exact (Option.some.inj q).symm
    subst ex
    refine ⟨_, rfl, wpAny_letOwnedTupleGo_enum (s := { s with heap := h', toks := tk + 1 }) ho fun h2 he2 sb => ?_⟩
    have T2 : h2.get? s.heap.objs.size = some { cls := .type "tuple", data := .seq #[.int i tk, x'] } := (sb.2 _ (Nat.ne_of_gt el)).trans hT
    have new : ObjOk X.prog X.w (upd H s.heap.objs.size (.tup [.int (i : Nat), x])) h2 s.heap.objs.size (.tup [.int (i : Nat), x]) := ⟨by show 2 ≤ sizeLine; decide, [.int i tk, x'], .cons ⟨_, rfl⟩ (.cons ru .nil), ⟨_, T2, rfl, _, rfl⟩⟩
    have I1 : Inv X pins σ (upd H s.heap.objs.size (.tup [.int (i : Nat), x])) { s with heap := h2, toks := tk + 1 } :=
      I.turnedNew (ch := [e, it]) (fun b ob hb q => by
        simp only [List.mem_cons, List.not_mem_nil, or_false, not_or] at hb
        exact (sb.2 b hb.1).trans (hk b ob hb.1 hb.2 q)) hf (Nat.le_refl _) new
    refine ⟨.ref s.heap.objs.size, _, I1, rfl, ⟨_, x, rfl, I.hok.fresh (Nat.le_refl _), rfl, fun ys hy => by rw [I.tuple_inj hy hq]; exact hx⟩, ⟨⟨x', ?_⟩, ?_, hne, hai, hea, hlt0⟩, fun b hb => ?_⟩
    · have q : ((i + 1 : Nat) : Int) = (i : Int) + 1 := by omega
      rw [q]; exact he2
    · obtain ⟨⟨o, ho1, ho2, ho3⟩, _⟩ := st'
      exact ⟨o, (sb.2 it (Ne.symm hne)).trans ho1, ho2, ho3⟩
    · have bl : b < s.heap.objs.size := by
        rcases List.mem_cons.mp hb with rfl | hb
        · exact el
        · obtain rfl := List.mem_singleton.mp hb
          exact il
      rw [upd_ne (Nat.ne_of_lt bl)]
      exact (hf b hb).1
  done := by
    intro X hP hw hK hc i pins s σ H E I hf st hg
    subst hP hw hK
    obtain ⟨⟨old, he⟩, hit, hne, hai, hea, hin⟩ := st
    obtain ⟨hni, xs, hq, hn⟩ := hg
    obtain ⟨its, rv, ht, hz⟩ := I.tuple hq
    obtain ⟨f0, f1, f2, f3, f4, f5⟩ := hf it (by simp)
    have hl := rv.length
    have D := Draws.tuple (prog := X.prog) (w := X.w) (A := X.A.in1) (I.ok.hd hc) it a hai its.toArray
    have ei : i = its.toArray.size := by simp; omega
    subst ei
    exact wpAny_pyNext_enum_endD D he ⟨hit, ht⟩ fun h' eb => ⟨rfl, I.turned (t' := s.toks) (fun b o hb q => eb b o hb q) f0 f1 f3 f4 f5⟩
  self := fun A i s Q E ⟨⟨_, he⟩, _⟩ h => wpAny_pyIter_enum he h
def iEnumT (K : PySem.W.Frag) (ta : TA) : TI := fun σ H R => ta σ H fun vs H1 => ∃ a xs, vs = [.ref a] ∧ SqT K H1 a xs ∧ R (IteT K a xs.length) H1
theorem pi_enumT {X : Cx} {e : Expr} {ta : TA} {p pos tpos : Pos} {elts : List Expr} {kk : Nat} (hg : Gl X "enumerate") (hm : X.mg "enumerate" = none) (ha : PA X [e] ta) (hs : starEach [e] X.env = [(false, eval e X.env)] := by rfl) :
    PI X (.Tuple elts kk tpos) (.Call (.Name "enumerate" p) [e] [] pos) (iEnumT X.K ta) := by
  refine ⟨fun pins s σ H R I h => Call_ (ld_blt I hg hm boot_enumerate (PyProof.Rows.callWith_type1 (thn (ha.run pos pins s σ H _ I h) fun us s1 ⟨vs, H1, I1, r1, q1⟩ => ?_) hs rfl))⟩
  obtain ⟨a, xs, ex, hq, q⟩ := q1
  subst ex
  rw [Vals.ref1 r1]
  obtain ⟨its, rv, ht, hz⟩ := I1.tuple hq
  have al : a < s1.heap.objs.size := by obtain ⟨_, g, _⟩ := ht; exact Heap.lt_size g
  refine enum_tuple ht fun h' he hit hk => wpAny_pyIter_enum he ?_
  have I2 : Inv X pins σ H1 { s1 with heap := h' } := I1.kept (t' := s1.toks) hk
  refine ⟨s1.heap.objs.size + 1, [s1.heap.objs.size + 1, s1.heap.objs.size], _, _, H1, rfl, I2, turn_enumT a xs.length (s1.heap.objs.size + 1) s1.heap.objs.size, ⟨⟨.none, he⟩, hit, Nat.succ_ne_self _, Nat.ne_of_lt al, Nat.ne_of_gt (Nat.lt_succ_of_lt al), Nat.zero_le _⟩, fun b hb => ?_, q⟩
  have hle : s1.heap.objs.size ≤ b := by
    rcases List.mem_cons.mp hb with rfl | hb
    · exact Nat.le_succ _
    · obtain rfl := List.mem_singleton.mp hb
      exact Nat.le_refl _
  exact I1.fpOk hle (I1.hok.fresh hle)
/-- the loop over enumerate(t): one turn at a time -/
theorem for_enumT {K : PySem.W.Frag} {a : Addr} {xs : List V} {g : TG} {tb : TS} {D : Ends} {σ : L2.St} {H : Hp} (Pv : Nat → L2.St → Hp → Prop) (h0 : Pv 0 σ H) (hl : ∀ i σ H, Pv i σ H → SqT K H a xs)
    (hs : ∀ i x σ H T, xs[i]? = some x → Pv i σ H → H T = none → g (.ref T) σ (upd H T (.tup [.int (i : Nat), x])) fun σ2 H2 => tb { D with nx := Pv (i + 1), ct := Pv (i + 1), bk := D.nx } σ2 H2) (hd : ∀ σ H, Pv xs.length σ H → D.nx σ H) :
    ∃ W : Nat → Nat → L2.St → Hp → Prop, (∃ m, W 0 m σ H) ∧ ∀ i m σ H, W i m σ H →
      ((IteT K a xs.length).stop i H ∧ D.nx σ H) ∨ ((IteT K a xs.length).go i H ∧ ∃ N : L2.St → Hp → Prop, (∀ σ' H', N σ' H' → ∃ m', m' < m ∧ W (i + 1) m' σ' H') ∧ ∀ x H', (IteT K a xs.length).yld i H x H' → g x σ H' fun σ2 H2 => tb { D with nx := N, ct := N, bk := D.nx } σ2 H2) := by
  refine ⟨fun i m σ H => m = xs.length - i ∧ i ≤ xs.length ∧ Pv i σ H, ⟨_, rfl, Nat.zero_le _, h0⟩, fun i m σ H ⟨em, hi, pr⟩ => ?_⟩
  subst em
  have q := hl i σ H pr
  by_cases hlt : i < xs.length
  · refine .inr ⟨⟨hlt, xs, q, rfl⟩, Pv (i + 1), fun σ' H' p' => ⟨_, by omega, rfl, hlt, p'⟩, fun v H' ⟨T, x, e1, e2, e3, e4⟩ => ?_⟩
    subst e1 e3
    exact hs i x σ H T (e4 xs q) pr e2
  · obtain rfl : i = xs.length := by omega
    exact .inl ⟨⟨Nat.le_refl _, xs, q, rfl⟩, hd σ H pr⟩
end Ru

/-! min(xs, default=None) of a list of ints; a dict whose keys are tuples (int, int, bool) -/
namespace Ru
open PySem PySem.Spec PyProof.Rows L2
theorem reads_ints {h : Heap} : ∀ {vs : List Value} {ns : List Int}, IntsAre vs ns → ∃ as, ReadsAll h vs (ns.map PyData.int) as
  | _, _, .nil => ⟨_, .nil⟩
  | _, _, .cons n t r => let ⟨_, q⟩ := reads_ints r; ⟨_, .cons (.int n t) q⟩
theorem depth_ints : ∀ ns : List Int, PyData.depthAll (ns.map PyData.int) = 0
  | [] => rfl
  | n :: r => by show max 0 (PyData.depthAll (r.map PyData.int)) = 0; rw [depth_ints r]; rfl
theorem alike_ints (ns : List Int) : PySem.W.AlikeAll (ns.map PyData.int) := by
  refine ⟨fun x hx y hy => ?_, fun x hx => ?_⟩
  · obtain ⟨a, _, rfl⟩ := List.mem_map.mp hx
    obtain ⟨b, _, rfl⟩ := List.mem_map.mp hy
    rfl
  · obtain ⟨a, _, rfl⟩ := List.mem_map.mp hx
    exact fun q => nomatch q
section
variable {X : Cx}
def rMinD (K : PySem.W.Frag) : List V → List V → Hp → VK → Prop := fun vs zs H Q => ∃ (p : Addr) (ns : List Int) (d : V), vs = [V.ref p] ∧ zs = [d] ∧ SqL K H p (ns.map V.int) ∧ (ns = [] → Q d H) ∧ ∀ m, m ∈ ns → (∀ y ∈ ns, m ≤ y) → Q (.int m) H
theorem fold_min : ∀ (r : List Int) (n : Int), (r.foldl min n = n ∨ r.foldl min n ∈ r) ∧ r.foldl min n ≤ n ∧ ∀ y ∈ r, r.foldl min n ≤ y
  | [], n => ⟨.inl rfl, Int.le_refl _, fun y h => by cases h⟩
  | k :: r, n => by
    obtain ⟨a, b, c⟩ := fold_min r (min n k)
    simp only [List.foldl_cons, List.mem_cons]
    refine ⟨?_, by omega, ?_⟩
    · rcases a with a | a
      · rw [a]; by_cases q : n ≤ k
        · left; omega
        · right; left; omega
      · right; right; exact a
    · intro y hy
      rcases hy with rfl | hy
      · omega
      · exact c y hy
theorem cr_minD (hc : X.calm = true) (hu : X.A.units + 1 < cLine) : CallRK X (.builtin "min") [Str.ofString "default"] (rMinD X.K) := fun pins s σ H vs zs us ws Q I r rz h => by
  obtain ⟨p, ns, d, rfl, rfl, hs, g0, g1⟩ := h
  obtain ⟨its, rv, hl, _⟩ := I.list hs
  obtain rfl := Vals.ref1 r
  obtain ⟨w1, rfl, e1⟩ := vals1 rz
  obtain ⟨as, ra⟩ := reads_ints (h := s.heap) rv.ints
  refine PySem.W.min_list_default (I.ok.hd hc) hl.isList (by simpa using ra) (alike_ints ns) (by rw [depth_ints]; omega) (fun e h' tk hk => ?_) fun y ys i v h' tk bs e hv rd hk => ?_
  · have en : ns = [] := by simpa using e
    exact ⟨d, H, I.kept hk, e1, g0 en⟩
  · cases ns with
    | nil => cases e
    | cons n r =>
      simp only [List.map_cons, List.cons.injEq] at e
      obtain ⟨rfl, rfl⟩ := e
      rw [PySem.W.minD_ints] at rd
      generalize em : r.foldl min n = m at rd
      have fm := fold_min r n
      rw [em] at fm
      cases rd with
      | int _ t =>
        refine ⟨.int m, H, I.kept hk, ⟨t, rfl⟩, g1 m ?_ fun y hy => ?_⟩
        · rcases fm.1 with q | q
          · rw [q]; exact List.mem_cons_self
          · exact List.mem_cons_of_mem _ q
        · rcases List.mem_cons.mp hy with rfl | hy
          · exact fm.2.1
          · exact fm.2.2 y hy
end
/-! ### the dict of states -/
abbrev SKey := Int × Int × Bool
def skV (k : SKey) : List V := [.int k.1, .int k.2.1, .bl k.2.2]
def skL (k : SKey) : List Leaf := [.num k.1, .num k.2.1, .num (if k.2.2 = true then 1 else 0)]
theorem skL_inj {a b : SKey} (h : skL a = skL b) : a = b := by
  obtain ⟨a1, a2, a3⟩ := a
  obtain ⟨b1, b2, b3⟩ := b
  simp only [skL, List.cons.injEq, Leaf.num.injEq, and_true] at h
  obtain ⟨h1, h2, h3⟩ := h
  subst h1 h2
  cases a3 <;> cases b3 <;> simp at h3 <;> rfl
/-- entries: the key, the address of its tuple, the number stored -/
abbrev SEnt := SKey × Addr × Int
abbrev SRel : List SEnt → List (List Leaf × Addr × Value) → Prop := Paired fun p q => q.1 = skL p.1 ∧ q.2.1 = p.2.1 ∧ RelV (.int p.2.2) q.2.2
def lookS (es : List SEnt) (k : SKey) : Option Int := (es.find? fun e => decide (e.1 = k)).map (·.2.2)
def SDict (P : Program) (w : World) (a : Addr) (es : List SEnt) : HO := .ext fun h => (a == sysModules) = false ∧ es.length ≤ sizeLine ∧ ∃ xs, SRel es xs ∧ ∃ o ds ep, h.get? a = some o ∧ o.ExactDict ∧ o.data = .dict ds ep ∧ ds.toList = xs.map (entryOfKey (tupleKind (leafKind P w))) ∧ (xs.map (·.1)).Nodup
section
variable {P : Program} {w : World}
theorem sdict_ok {H : Hp} {h : Heap} {a : Addr} {es : List SEnt} (lo : (a == sysModules) = false) (hz : es.length ≤ sizeLine) {xs : List (List Leaf × Addr × Value)} (r : SRel es xs) {o : Obj} {ds : Array DictEntry} {ep : Nat} (g : h.get? a = some o) (x : o.ExactDict) (d : o.data = .dict ds ep) (e : ds.toList = xs.map (entryOfKey (tupleKind (leafKind P w)))) (nd : (xs.map (·.1)).Nodup) : ObjOk P w H h a (SDict P w a es) :=
  ⟨⟨lo, hz, xs, r, o, ds, ep, g, x, d, e, nd⟩, ⟨o, g⟩, fun h1 h2 ⟨lo, hz, xs, r, o, ds, ep, g, t⟩ k => ⟨lo, hz, xs, r, o, ds, ep, k o g, t⟩⟩
theorem skey_is {H : Hp} {h : Heap} (ok : HOk P w H h) {b : Addr} {k : SKey} (e : H b = some (.tup (skV k))) : (tupleKind (leafKind P w)).is h (skL k) b := by
  obtain ⟨_, its, rv, o, g, hc, n, hd⟩ := ok b _ e
  refine ⟨o, its.toArray, n, g, hc, hd, ?_⟩
  unfold skV at rv
  cases rv with
  | cons r1 rr =>
    cases rr with
    | cons r2 rr =>
      cases rr with
      | cons r3 rr =>
        cases rr
        obtain ⟨t1, rfl⟩ := r1
        obtain ⟨t2, rfl⟩ := r2
        obtain rfl := r3
        refine .cons ?_ (.cons ?_ (.cons ?_ .nil))
        · exact decide_eq_true rfl
        · exact decide_eq_true rfl
        · exact decide_eq_true rfl
/-- the tuples of the keys stand -/
def KeysAt (H : Hp) (es : List SEnt) : Prop := ∀ e ∈ es, H e.2.1 = some (.tup (skV e.1))
theorem srel_keys : ∀ {es : List SEnt} {xs : List (List Leaf × Addr × Value)}, SRel es xs → (∀ x ∈ xs, ∃ e ∈ es, x.1 = skL e.1 ∧ x.2.1 = e.2.1)
  | _, _, .nil => fun x h => by cases h
  | _, _, .cons (a := e) (b := y) r t => fun x h => by
    rcases List.mem_cons.mp h with rfl | h
    · exact ⟨e, List.mem_cons_self, r.1, r.2.1⟩
    · obtain ⟨e', m, q⟩ := srel_keys t x h
      exact ⟨e', List.mem_cons_of_mem _ m, q⟩
theorem srel_at : ∀ {es : List SEnt} {xs : List (List Leaf × Addr × Value)}, SRel es xs → ∀ k, (lookS es k = none ∧ atKey xs (skL k) = none) ∨ ∃ i p, lookS es k = some i ∧ atKey xs (skL k) = some p ∧ RelV (.int i) p.2
  | _, _, .nil => fun k => .inl ⟨rfl, rfl⟩
  | _, _, .cons (a := e) (b := y) r t => fun k => by
    unfold lookS atKey
    rw [List.find?_cons, List.find?_cons]
    by_cases c : e.1 = k
    · subst c
      rw [decide_eq_true rfl, decide_eq_true r.1]
      exact .inr ⟨_, _, rfl, rfl, r.2.2⟩
    · have c2 : ¬ y.1 = skL k := fun q => c (skL_inj (r.1.symm.trans q))
      rw [decide_eq_false c, decide_eq_false c2]
      exact srel_at t k
theorem srel_snoc : ∀ {es : List SEnt} {xs : List (List Leaf × Addr × Value)} {e : SEnt} {x : List Leaf × Addr × Value}, SRel es xs → x.1 = skL e.1 ∧ x.2.1 = e.2.1 ∧ RelV (.int e.2.2) x.2.2 → SRel (es ++ [e]) (xs ++ [x])
  | _, _, _, _, .nil, h => .cons h .nil
  | _, _, _, _, .cons r t, h => .cons r (srel_snoc t h)
theorem sdict_get {H : Hp} {h : Heap} (ok : HOk P w H h) {a : Addr} {es : List SEnt} (e : H a = some (SDict P w a es)) (ks : KeysAt H es) : (a == sysModules) = false ∧ es.length ≤ sizeLine ∧ ∃ xs, SRel es xs ∧ h.DictOfH (tupleKind (leafKind P w)) a xs := by
  obtain ⟨⟨lo, hz, xs, r, o, ds, ep, g, x, d, l, nd⟩, _, _⟩ := ok a _ e
  refine ⟨lo, hz, xs, r, o, ds, ep, g, x, d, l, fun x hx => ?_, nd⟩
  obtain ⟨e', m, q1, q2⟩ := srel_keys r x hx
  rw [q1, q2]
  exact skey_is ok (ks e' m)
end
section
variable {X : Cx} {pos : Pos}
def tDNewS (P : Program) (w : World) : TE := fun _ H Q => ∀ p, H p = none → Q (.ref p) (upd H p (SDict P w p []))
theorem pe_dnewS : PE X (.Dict [] [] pos) (tDNewS X.prog X.w) := ⟨fun pins s σ H Q I h =>
  wpAny_Dict_empty ⟨.ref s.heap.objs.size, _, I.laid (a := s.heap.objs.size) (o := SDict X.prog X.w s.heap.objs.size []) (t' := s.toks) (fun _ _ q => Heap.get?_push_of_some _ q) (Nat.le_refl _)
    (sdict_ok (beq_eq_false_iff_ne.mpr (Ne.symm (Nat.ne_of_lt I.big))) (Nat.zero_le _) .nil (ep := 0) (ds := #[]) (Heap.get?_push_size _ rfl) ⟨rfl, rfl, rfl⟩ rfl rfl List.nodup_nil), rfl, h _ (I.hok.fresh (Nat.le_refl _))⟩⟩
/-- what a look into the dict asks -/
def AskS (P : Program) (w : World) (x y : V) (H : Hp) (R : Addr → Addr → List SEnt → SKey → Prop) : Prop := ∃ (a b : Addr) (es : List SEnt) (k : SKey), x = .ref a ∧ y = .ref b ∧ H b = some (.tup (skV k)) ∧ H a = some (SDict P w a es) ∧ KeysAt H es ∧ R a b es k
theorem op_inSD (hu : X.A.units + 1 < cLine) : OpR X (compareOp .In) (fun y x H Q => AskS X.prog X.w x y H fun _ _ es k => Q (.bl (lookS es k).isSome) H) := fun pins s σ H y x u v Q I ry rx ⟨a, b, es, k, ex, ey, hb, ha, ks, g⟩ => by
  subst ex ey
  cases rx
  cases ry
  obtain ⟨lo, hz, xs, r, dd⟩ := sdict_get I.hok ha ks
  refine wpAny_in_heap (tupleKind_room_in1 hu) (skey_is I.hok hb) lo dd ?_
  rcases srel_at r k with ⟨q1, q2⟩ | ⟨i, p, q1, q2, q3⟩
  · have g' : Q (.bl (lookS es k).isSome) H := g
    rw [q1] at g'
    rw [q2]
    exact ⟨.bl false, H, I.tok _, rfl, g'⟩
  · have g' : Q (.bl (lookS es k).isSome) H := g
    rw [q1] at g'
    rw [q2]
    exact ⟨.bl true, H, I.tok _, rfl, g'⟩
theorem ix_sd (hu : X.A.units + 1 < cLine) : IxR X (fun x y H Q => AskS X.prog X.w x y H fun _ _ es k => ∃ i, lookS es k = some i ∧ Q (.int i) H) := fun value slice pins s σ H x y v u Q I rx ry ⟨a, b, es, k, ex, ey, hb, ha, ks, i, hi, g⟩ hs => by
  subst ex ey
  cases rx
  cases ry
  obtain ⟨lo, hz, xs, r, dd⟩ := sdict_get I.hok ha ks
  rcases srel_at r k with ⟨q1, q2⟩ | ⟨i', p, q1, q2, q3⟩
  · rw [q1] at hi; cases hi
  · rw [q1] at hi
    obtain rfl := Option.some.inj hi
    exact tail_any dd.typeIs slot_dict_getitem.lookup (wpAny_getItem_heap (tupleKind_room_in1 hu) (skey_is I.hok hb) dd q2 ⟨_, _, I.tok _, q3, g⟩) hs
theorem set_sd (hu : X.A.units + 1 < cLine) : PSet X (fun o i v H Q => AskS X.prog X.w o i H fun a b es k => ∃ n, v = .int n ∧ lookS es k = none ∧ es.length < sizeLine ∧ Q (upd H a (SDict X.prog X.w a (es ++ [(k, b, n)])))) := fun pins s σ H o i v ov iv u Q I ro ri rv ⟨a, b, es, k, ex, ey, hb, ha, ks, n, en, hn, hl, g⟩ => by
  subst ex ey en
  cases ro
  cases ri
  obtain ⟨lo, hz, xs, r, dd⟩ := sdict_get I.hok ha ks
  have lx : xs.length ≤ sizeLine := by rw [← Paired.length r]; exact hz
  refine wpAny_setItem_heap (hsz := lx) (tupleKind_room_in1 hu) (skey_is I.hok hb) dd fun h' dd' sb => ?_
  rcases srel_at r k with ⟨q1, q2⟩ | ⟨i', p, q1, q2, q3⟩
  · rw [storedH_new q2] at dd'
    obtain ⟨q, ds, ep, hq, h2, h3, h4, _, h5⟩ := dd'
    refine ⟨_, d_write I (by rw [ha]; exact True.intro) sb ⟨q, hq⟩ (sdict_ok lo (by rw [List.length_append]; exact hl) (srel_snoc r ⟨rfl, rfl, rv⟩) hq h2 h3 h4 h5), g⟩
  · rw [q1] at hn; cases hn
end
end Ru

/-! The thermostat in plain Lean: the course of a temperature, its stretches, its repetition. -/
namespace Th

structure Par where
  ch : List Int
  g : Int
  lo : Int
  hi : Int
  st : Int
  on0 : Bool

structure Par.Ok (p : Par) : Prop where
  n1 : 1 ≤ p.ch.length
  n24 : p.ch.length ≤ 24
  chb : ∀ c ∈ p.ch, -100 ≤ c ∧ c ≤ 100
  g1 : 1 ≤ p.g
  g200 : p.g ≤ 200
  lohi : p.lo ≤ p.hi
  lob : -1000000000000 ≤ p.lo
  hib : p.hi ≤ 1000000000000
  st1 : -1000000000000 ≤ p.st
  st2 : p.st ≤ 1000000000000

def chAt (ch : List Int) (t : Nat) : Int := ch.getD (t % ch.length) 0
def gon (g : Int) (b : Bool) : Int := if b then g else 0
def sumTo (ch : List Int) (gg : Int) : Nat → Int
  | 0 => 0
  | t + 1 => sumTo ch gg t + chAt ch t + gg
/-- the sum of a whole round -/
def rsum (ch : List Int) (gg : Int) : Int := ch.sum + gg * (ch.length : Int)
/-- the sums of the first ticks of a round -/
def pre (ch : List Int) (gg : Int) (r : Nat) : Int := (ch.take r).sum + gg * (r : Int)

theorem sum_take_succ : ∀ {l : List Int} {i : Nat}, i < l.length → (l.take (i + 1)).sum = (l.take i).sum + l.getD i 0
  | [], i, h => by simp at h
  | a :: r, 0, _ => by simp
  | a :: r, i + 1, h => by
    have ih := sum_take_succ (l := r) (i := i) (by simpa using h)
    simp only [List.take_succ_cons, List.sum_cons, List.getD_cons_succ]
    omega

theorem divmod_succ {n t : Nat} (hn : 0 < n) : (t % n + 1 < n ∧ (t + 1) / n = t / n ∧ (t + 1) % n = t % n + 1) ∨ (t % n + 1 = n ∧ (t + 1) / n = t / n + 1 ∧ (t + 1) % n = 0) := by
  have e := Nat.div_add_mod t n
  have l := Nat.mod_lt t hn
  by_cases c : t % n + 1 < n
  · refine .inl ⟨c, ?_, ?_⟩
    · rw [show t + 1 = n * (t / n) + (t % n + 1) by omega, Nat.mul_add_div hn, Nat.div_eq_of_lt c]; rfl
    · rw [show t + 1 = n * (t / n) + (t % n + 1) by omega, Nat.mul_add_mod, Nat.mod_eq_of_lt c]
  · refine .inr ⟨by omega, ?_, ?_⟩
    · rw [show t + 1 = n * (t / n + 1) by rw [Nat.mul_add]; omega, Nat.mul_div_cancel_left _ hn]
    · rw [show t + 1 = n * (t / n + 1) by rw [Nat.mul_add]; omega, Nat.mul_mod_right]

theorem sumTo_eq {ch : List Int} {gg : Int} (hn : 1 ≤ ch.length) : ∀ t : Nat, sumTo ch gg t = ((t / ch.length : Nat) : Int) * rsum ch gg + pre ch gg (t % ch.length)
  | 0 => by simp [sumTo, pre]
  | t + 1 => by
    have ih := sumTo_eq (ch := ch) (gg := gg) hn t
    have lt := Nat.mod_lt t (show 0 < ch.length by omega)
    show sumTo ch gg t + chAt ch t + gg = _
    rw [ih]
    rcases divmod_succ (n := ch.length) (t := t) (by omega) with ⟨c, e1, e2⟩ | ⟨c, e1, e2⟩
    · rw [e1, e2]
      unfold pre chAt
      rw [sum_take_succ lt, Int.natCast_add, Int.mul_add]
      simp only [Int.natCast_one, Int.mul_one]
      omega
    · rw [e1, e2]
      have h1 := sum_take_succ (l := ch) lt
      rw [c, List.take_length] at h1
      unfold pre chAt rsum
      rw [h1, Int.natCast_add, Int.add_mul]
      have : gg * ((ch.length : Nat) : Int) = gg * ((t % ch.length : Nat) : Int) + gg := by
        rw [show ((ch.length : Nat) : Int) = ((t % ch.length : Nat) : Int) + 1 by omega, Int.mul_add, Int.mul_one]
      simp only [List.take_zero, List.sum_nil, Int.natCast_zero, Int.mul_zero, Int.natCast_one, Int.one_mul]
      omega

theorem chAt_add {ch : List Int} (t : Nat) : chAt ch (t + ch.length) = chAt ch t := by
  unfold chAt
  rw [Nat.add_mod_right]
theorem sumTo_round {ch : List Int} {gg : Int} (hn : 1 ≤ ch.length) (t : Nat) : sumTo ch gg (t + ch.length) = sumTo ch gg t + rsum ch gg := by
  rw [sumTo_eq hn, sumTo_eq hn, Nat.add_mod_right, Nat.add_div_right _ (by omega), Int.natCast_add, Int.add_mul]
  simp only [Int.natCast_one, Int.one_mul]
  omega
theorem sumTo_rounds {ch : List Int} {gg : Int} (hn : 1 ≤ ch.length) (t : Nat) : ∀ k : Nat, sumTo ch gg (t + k * ch.length) = sumTo ch gg t + (k : Int) * rsum ch gg
  | 0 => by simp
  | k + 1 => by
    rw [Nat.succ_mul, ← Nat.add_assoc, sumTo_round hn, sumTo_rounds hn t k, Int.natCast_add, Int.add_mul]
    simp only [Int.natCast_one, Int.one_mul]
    omega

/-! ### the course itself -/
def hst (d lo hi : Int) (b : Bool) : Bool := if d < lo then true else if d > hi then false else b
def stepT (p : Par) (t : Nat) (x : Int × Bool) : Int × Bool :=
  (x.1 + chAt p.ch t + gon p.g x.2, hst (x.1 + chAt p.ch t + gon p.g x.2) p.lo p.hi x.2)
def traj (p : Par) : Nat → Int × Bool
  | 0 => (p.st, hst p.st p.lo p.hi p.on0)
  | t + 1 => stepT p t (traj p t)
def deg (p : Par) (t : Nat) : Int := (traj p t).1
def onn (p : Par) (t : Nat) : Bool := (traj p t).2
theorem deg_succ (p : Par) (t : Nat) : deg p (t + 1) = deg p t + chAt p.ch t + gon p.g (onn p t) := rfl
theorem onn_succ (p : Par) (t : Nat) : onn p (t + 1) = hst (deg p (t + 1)) p.lo p.hi (onn p t) := rfl
/-- how many of the first ticks are heated -/
def Hc (p : Par) : Nat → Int
  | 0 => 0
  | t + 1 => Hc p t + (if onn p t then 1 else 0)

/-- the heater stays from b to the tick before e -/
def Run (p : Par) (b e : Nat) : Prop := ∀ t, b ≤ t → t < e → onn p t = onn p b
theorem run_deg {p : Par} {b : Nat} : ∀ {e : Nat}, b ≤ e → Run p b e → deg p e = deg p b + (sumTo p.ch (gon p.g (onn p b)) e - sumTo p.ch (gon p.g (onn p b)) b)
  | 0, h, _ => by
    have : b = 0 := by omega
    subst this; omega
  | e + 1, h, r => by
    by_cases c : b = e + 1
    · subst c; omega
    · have ih := run_deg (p := p) (b := b) (e := e) (by omega) (fun t h1 h2 => r t h1 (by omega))
      rw [deg_succ, ih, r e (by omega) (by omega)]
      show _ = deg p b + (sumTo p.ch (gon p.g (onn p b)) e + chAt p.ch e + gon p.g (onn p b) - _)
      omega
theorem run_heat {p : Par} {b : Nat} : ∀ {e : Nat}, b ≤ e → Run p b e → Hc p e = Hc p b + (if onn p b then ((e - b : Nat) : Int) else 0)
  | 0, h, _ => by
    have : b = 0 := by omega
    subst this; simp
  | e + 1, h, r => by
    by_cases c : b = e + 1
    · subst c; simp
    · have ih := run_heat (p := p) (b := b) (e := e) (by omega) (fun t h1 h2 => r t h1 (by omega))
      show Hc p e + (if onn p e then 1 else 0) = _
      rw [ih, r e (by omega) (by omega)]
      split <;> omega

/-- e is the first tick behind b in which the heater switches -/
def Nx (p : Par) (b e : Nat) : Prop := b < e ∧ Run p b e ∧ onn p e ≠ onn p b
def Nev (p : Par) (b : Nat) : Prop := ∀ t, b ≤ t → onn p t = onn p b
def sgnOf (b : Bool) : Int := if b then 1 else -1
def bndOf (p : Par) (b : Bool) : Int := if b then p.hi else p.lo
def Bey (sgn bound x : Int) : Prop := sgn * (bound - x) < 0
instance (s b x : Int) : Decidable (Bey s b x) := inferInstanceAs (Decidable (_ < _))
/-- the temperature at t if the heater stays as it is in b -/
def DD (p : Par) (b t : Nat) : Int := deg p b + (sumTo p.ch (gon p.g (onn p b)) t - sumTo p.ch (gon p.g (onn p b)) b)

theorem hst_stay {p : Par} (ok : p.lo ≤ p.hi) {b : Bool} {d : Int} : hst d p.lo p.hi b = b ↔ ¬ Bey (sgnOf b) (bndOf p b) d := by
  unfold hst Bey sgnOf bndOf
  cases b
  · simp only [Bool.false_eq_true, if_false]
    by_cases c : d < p.lo
    · simp only [c, if_true]
      constructor
      · intro h; cases h
      · intro h; exact absurd (show (-1 : Int) * (p.lo - d) < 0 by omega) h
    · simp only [c, if_false]
      constructor
      · intro _ h; omega
      · intro _; split <;> rfl
  · simp only [if_true]
    by_cases c : d < p.lo
    · simp only [c, if_true]
      exact ⟨fun _ h => by omega, fun _ => trivial⟩
    · simp only [c, if_false]
      by_cases c2 : d > p.hi
      · simp only [c2, if_true]
        constructor
        · intro h; cases h
        · intro h; exact absurd (show (1 : Int) * (p.hi - d) < 0 by omega) h
      · simp only [c2, if_false]
        exact ⟨fun _ h => by omega, fun _ => trivial⟩
theorem stay_run {p : Par} (ok : p.lo ≤ p.hi) {b : Nat} : ∀ {e : Nat}, (∀ t, b < t → t < e → ¬ Bey (sgnOf (onn p b)) (bndOf p (onn p b)) (DD p b t)) → Run p b e
  | 0, _ => fun t _ h => by omega
  | e + 1, h => fun t h1 h2 => by
    have ih := stay_run ok (p := p) (b := b) (e := e) (fun t h1 h2 => h t h1 (by omega))
    by_cases c : t < e
    · exact ih t h1 c
    · have te : t = e := by omega
      subst te
      by_cases cb : t = b
      · rw [cb]
      · obtain ⟨u, rfl⟩ : ∃ u, t = u + 1 := ⟨t - 1, by omega⟩
        rw [onn_succ, ih u (by omega) (by omega)]
        refine (hst_stay ok).mpr ?_
        rw [run_deg h1 ih]
        exact h (u + 1) (by omega) (by omega)
theorem nx_of {p : Par} (ok : p.lo ≤ p.hi) {b e : Nat} (h0 : b < e) (h : ∀ t, b < t → t < e → ¬ Bey (sgnOf (onn p b)) (bndOf p (onn p b)) (DD p b t)) (he : Bey (sgnOf (onn p b)) (bndOf p (onn p b)) (DD p b e)) : Nx p b e := by
  have r := stay_run ok h
  refine ⟨h0, r, fun q => ?_⟩
  obtain ⟨u, rfl⟩ : ∃ u, e = u + 1 := ⟨e - 1, by omega⟩
  rw [onn_succ, r u (by omega) (by omega)] at q
  refine (hst_stay ok).mp q ?_
  rw [run_deg (by omega) r]
  exact he
theorem nev_of {p : Par} (ok : p.lo ≤ p.hi) {b : Nat} (h : ∀ t, b < t → ¬ Bey (sgnOf (onn p b)) (bndOf p (onn p b)) (DD p b t)) : Nev p b := fun t h1 =>
  stay_run ok (e := t + 1) (fun t h1 _ => h t h1) t h1 (by omega)

/-! ### the first tick beyond a bound -/
theorem DD_round {p : Par} (ok : p.Ok) (b t k : Nat) : DD p b (t + k * p.ch.length) = DD p b t + (k : Int) * rsum p.ch (gon p.g (onn p b)) := by
  unfold DD
  rw [sumTo_rounds ok.n1]
  omega
/-- general: a temperature that goes on as base + sumTo -/
def Dg (ch : List Int) (gg base : Int) (t : Nat) : Int := base + sumTo ch gg t
theorem Dg_rounds {ch : List Int} {gg base : Int} (hn : 1 ≤ ch.length) (t k : Nat) : Dg ch gg base (t + k * ch.length) = Dg ch gg base t + (k : Int) * rsum ch gg := by
  unfold Dg
  rw [sumTo_rounds hn]
  omega
theorem DD_eq (p : Par) (b t : Nat) : DD p b t = Dg p.ch (gon p.g (onn p b)) (deg p b - sumTo p.ch (gon p.g (onn p b)) b) t := by
  unfold DD Dg
  omega
theorem class_of {n b t : Nat} (hn : 0 < n) (h : b < t) : ∃ i k, i < n ∧ t = b + 1 + i + k * n := by
  refine ⟨(t - b - 1) % n, (t - b - 1) / n, Nat.mod_lt _ hn, ?_⟩
  have e := Nat.div_add_mod (t - b - 1) n
  rw [Nat.mul_comm] at e
  omega
/-- what first_beyond gives -/
def FB (ch : List Int) (gg base : Int) (b : Nat) (sgn bound : Int) (r : Option Nat) : Prop :=
  match r with
  | some e => b < e ∧ Bey sgn bound (Dg ch gg base e) ∧ ∀ t, b < t → t < e → ¬ Bey sgn bound (Dg ch gg base t)
  | none => ∀ t, b < t → ¬ Bey sgn bound (Dg ch gg base t)
theorem bey_rounds {ch : List Int} {gg base sgn bound : Int} (hn : 1 ≤ ch.length) (t k : Nat) : sgn * (bound - Dg ch gg base (t + k * ch.length)) = sgn * (bound - Dg ch gg base t) - (k : Int) * (sgn * rsum ch gg) := by
  rw [Dg_rounds hn]
  have e1 : sgn * (bound - (Dg ch gg base t + (k : Int) * rsum ch gg)) = sgn * (bound - Dg ch gg base t) - sgn * ((k : Int) * rsum ch gg) := by rw [← Int.mul_sub]; congr 1; omega
  rw [e1, Int.mul_left_comm]
theorem fb_none {ch : List Int} {gg base sgn bound : Int} {b : Nat} (hn : 1 ≤ ch.length) (hs : sgn * rsum ch gg ≤ 0) (h : ∀ i, i < ch.length → ¬ Bey sgn bound (Dg ch gg base (b + 1 + i))) : FB ch gg base b sgn bound none := fun t ht => by
  obtain ⟨i, k, hi, rfl⟩ := class_of (n := ch.length) (by omega) ht
  have q := h i hi
  unfold Bey at q ⊢
  rw [bey_rounds hn]
  have : (k : Int) * (sgn * rsum ch gg) ≤ 0 := Int.mul_nonpos_of_nonneg_of_nonpos (Int.natCast_nonneg k) hs
  omega
/-- the tick that the class of the i-th tick gives -/
def cand (ch : List Int) (gg base : Int) (b : Nat) (sgn bound : Int) (i : Nat) : Nat :=
  b + 1 + i + (sgn * (bound - Dg ch gg base (b + 1 + i)) / (sgn * rsum ch gg) + 1).toNat * ch.length
theorem fb_some {ch : List Int} {gg base sgn bound : Int} {b m : Nat} (hn : 1 ≤ ch.length) (hs : 0 < sgn * rsum ch gg) (h : ∀ i, i < ch.length → ¬ Bey sgn bound (Dg ch gg base (b + 1 + i)))
    (hm : ∃ i, i < ch.length ∧ m = cand ch gg base b sgn bound i) (hle : ∀ i, i < ch.length → m ≤ cand ch gg base b sgn bound i) : FB ch gg base b sgn bound (some m) := by
  obtain ⟨i, hi, rfl⟩ := hm
  refine ⟨by unfold cand; omega, ?_, fun t h1 h2 => ?_⟩
  · have q := h i hi
    unfold Bey at q ⊢
    unfold cand
    rw [bey_rounds hn]
    generalize sgn * (bound - Dg ch gg base (b + 1 + i)) = gap at *
    generalize sgn * rsum ch gg = sp at *
    have h0 : 0 ≤ gap / sp := Int.ediv_nonneg (by omega) (by omega)
    rw [Int.toNat_of_nonneg (by omega), Int.add_mul, Int.one_mul]
    have e := Int.mul_ediv_add_emod gap sp
    have l := Int.emod_lt_of_pos gap hs
    rw [Int.mul_comm] at e
    omega
  · obtain ⟨j, k, hj, rfl⟩ := class_of (n := ch.length) (by omega) h1
    intro hb
    have q := h j hj
    have le := hle j hj
    unfold Bey at q hb
    rw [bey_rounds hn] at hb
    unfold cand at le h2
    generalize sgn * (bound - Dg ch gg base (b + 1 + j)) = gap at *
    generalize sgn * rsum ch gg = sp at *
    have h0 : 0 ≤ gap / sp := Int.ediv_nonneg (by omega) (by omega)
    have hk : gap / sp < (k : Int) := Int.ediv_lt_of_lt_mul hs (by omega)
    have hk2 : (gap / sp + 1).toNat ≤ k := by omega
    have := Nat.mul_le_mul_right ch.length hk2
    omega
theorem fb_hit {ch : List Int} {gg base sgn bound : Int} {b i : Nat} (h : ∀ j, j < i → ¬ Bey sgn bound (Dg ch gg base (b + 1 + j))) (hi : Bey sgn bound (Dg ch gg base (b + 1 + i))) : FB ch gg base b sgn bound (some (b + 1 + i)) :=
  ⟨by omega, hi, fun t h1 h2 => by
    have q := h (t - b - 1) (by omega)
    rw [show b + 1 + (t - b - 1) = t by omega] at q
    exact q⟩
/-- how late at most: by the first class -/
theorem fb_late {ch : List Int} {gg base sgn bound : Int} {b e : Nat} (hn : 1 ≤ ch.length) (hs : 0 < sgn * rsum ch gg) (h : FB ch gg base b sgn bound (some e)) (hg : 0 ≤ sgn * (bound - Dg ch gg base (b + 1))) : e ≤ cand ch gg base b sgn bound 0 := by
  obtain ⟨h1, h2, h3⟩ := h
  refine Nat.le_of_not_lt fun hlt => ?_
  refine h3 (cand ch gg base b sgn bound 0) (by unfold cand; omega) hlt ?_
  unfold Bey cand
  rw [bey_rounds hn]
  rw [Nat.add_zero]
  generalize sgn * (bound - Dg ch gg base (b + 1)) = gap at *
  generalize sgn * rsum ch gg = sp at *
  have h0 : 0 ≤ gap / sp := Int.ediv_nonneg (by omega) (by omega)
  rw [Int.toNat_of_nonneg (by omega), Int.add_mul, Int.one_mul]
  have e := Int.mul_ediv_add_emod gap sp
  have l := Int.emod_lt_of_pos gap hs
  rw [Int.mul_comm] at e
  omega
end Th

/-! Stretches, repetition, heating in the long run: plain Lean. -/
namespace Th

def stt (p : Par) (t : Nat) : Nat × Int × Bool := (t % p.ch.length, deg p t, onn p t)
theorem traj_again {p : Par} {a l : Nat} (h : stt p a = stt p l) : ∀ j, traj p (l + j) = traj p (a + j)
  | 0 => by
    unfold stt at h
    injection h with h1 h2
    injection h2 with h2 h3
    exact Prod.ext h2.symm h3.symm
  | j + 1 => by
    have ih := traj_again h j
    unfold stt at h
    injection h with h1 h2
    show stepT p (l + j) (traj p (l + j)) = stepT p (a + j) (traj p (a + j))
    rw [ih]
    have e : chAt p.ch (l + j) = chAt p.ch (a + j) := by
      unfold chAt
      rw [Nat.add_mod l j, Nat.add_mod a j, h1]
    unfold stepT
    rw [e]
/-- behind a tick all is the same again T ticks later -/
def Per (p : Par) (f T : Nat) : Prop := ∀ t, f ≤ t → traj p (t + T) = traj p t
theorem per_of {p : Par} {a l : Nat} (h : stt p a = stt p l) (hl : a ≤ l) : Per p a (l - a) := fun t ht => by
  have e := traj_again h (t - a)
  rw [show l + (t - a) = t + (l - a) by omega, show a + (t - a) = t by omega] at e
  exact e
theorem Per.times {p : Par} {f T : Nat} (h : Per p f T) {t : Nat} (ht : f ≤ t) : ∀ m, traj p (t + m * T) = traj p t
  | 0 => by simp
  | m + 1 => by
    rw [Nat.succ_mul, ← Nat.add_assoc, h (t + m * T) (by omega)]
    exact h.times ht m
theorem Per.heat {p : Par} {f T : Nat} (h : Per p f T) : ∀ j, Hc p (f + j + T) - Hc p (f + j) = Hc p (f + T) - Hc p f
  | 0 => rfl
  | j + 1 => by
    have ih := h.heat j
    have e : onn p (f + j + T) = onn p (f + j) := congrArg Prod.snd (h (f + j) (by omega))
    have e1 : Hc p (f + (j + 1) + T) = Hc p (f + j + T) + (if onn p (f + j + T) then 1 else 0) := by
      rw [show f + (j + 1) + T = (f + j + T) + 1 by omega]; rfl
    have e2 : Hc p (f + (j + 1)) = Hc p (f + j) + (if onn p (f + j) then 1 else 0) := rfl
    rw [e1, e2, e]
    omega
theorem Per.heats {p : Par} {f T : Nat} (h : Per p f T) {t : Nat} (ht : f ≤ t) : ∀ m : Nat, Hc p (t + m * T) = Hc p t + (m : Int) * (Hc p (f + T) - Hc p f)
  | 0 => by simp
  | m + 1 => by
    have ih := h.heats ht m
    have e := h.heat (t + m * T - f)
    rw [show f + (t + m * T - f) = t + m * T by omega] at e
    rw [Nat.succ_mul, ← Nat.add_assoc, Int.natCast_add, Int.add_mul]
    simp only [Int.natCast_one, Int.one_mul]
    omega
theorem Per.mono {p : Par} {f f' T : Nat} (h : Per p f T) (hf : f ≤ f') : Per p f' T := fun t ht => h t (by omega)

/-! ### the begins of the stretches -/
def Chain (p : Par) (bs : List Nat) : Prop := bs[0]? = some 0 ∧ ∀ i a c, bs[i]? = some a → bs[i + 1]? = some c → Nx p a c
theorem Chain.ne {p : Par} {bs : List Nat} (h : Chain p bs) : 0 < bs.length := by
  have := h.1
  cases bs with
  | nil => simp at this
  | cons a r => simp
theorem at_some {bs : List Nat} {i : Nat} (h : i < bs.length) : ∃ a, bs[i]? = some a := ⟨bs[i], by simp [h]⟩
theorem at_lt {α : Type} {bs : List α} {i : Nat} {a : α} (h : bs[i]? = some a) : i < bs.length := (List.getElem?_eq_some_iff.mp h).1
theorem Chain.lt {p : Par} {bs : List Nat} (h : Chain p bs) {i : Nat} : ∀ {d a c : Nat}, bs[i]? = some a → bs[i + d + 1]? = some c → a < c
  | 0, a, c, h1, h2 => (h.2 i a c h1 h2).1
  | d + 1, a, c, h1, h2 => by
    obtain ⟨m, hm⟩ := at_some (bs := bs) (i := i + d + 1) (by have := at_lt h2; omega)
    have q1 := h.lt (d := d) h1 hm
    have q2 := (h.2 (i + d + 1) m c hm h2).1
    omega
theorem Chain.lt' {p : Par} {bs : List Nat} (h : Chain p bs) {i j a c : Nat} (hij : i < j) (h1 : bs[i]? = some a) (h2 : bs[j]? = some c) : a < c := by
  refine h.lt (i := i) (d := j - i - 1) h1 ?_
  rw [show i + (j - i - 1) + 1 = j by omega]
  exact h2
theorem Chain.le' {p : Par} {bs : List Nat} (h : Chain p bs) {i j a c : Nat} (hij : i ≤ j) (h1 : bs[i]? = some a) (h2 : bs[j]? = some c) : a ≤ c := by
  by_cases e : i = j
  · subst e; rw [h1] at h2; cases h2; exact Nat.le_refl _
  · exact Nat.le_of_lt (h.lt' (by omega) h1 h2)
theorem Chain.single (p : Par) : Chain p [0] := ⟨rfl, fun i a c h1 h2 => by simp at h2⟩
theorem Chain.snoc {p : Par} {bs : List Nat} {b e : Nat} (h : Chain p bs) (hb : bs[bs.length - 1]? = some b) (n : Nx p b e) : Chain p (bs ++ [e]) := by
  have ne := h.ne
  refine ⟨by rw [List.getElem?_append_left ne]; exact h.1, fun i a c h1 h2 => ?_⟩
  by_cases hi : i + 1 < bs.length
  · rw [List.getElem?_append_left (by omega)] at h1
    rw [List.getElem?_append_left hi] at h2
    exact h.2 i a c h1 h2
  · have l2 := at_lt h2
    rw [List.length_append, List.length_singleton] at l2
    have ei : i = bs.length - 1 := by omega
    subst ei
    rw [List.getElem?_append_left (by omega), hb] at h1
    rw [show bs.length - 1 + 1 = bs.length by omega, List.getElem?_append_right (Nat.le_refl _), Nat.sub_self] at h2
    cases h1
    cases h2
    exact n

/-! ### the temperatures at which stretches begin -/
theorem onn_hst (p : Par) : ∀ t, ∃ b, onn p t = hst (deg p t) p.lo p.hi b
  | 0 => ⟨p.on0, rfl⟩
  | t + 1 => ⟨onn p t, rfl⟩
theorem getD_mem {l : List Int} {i : Nat} (h : i < l.length) : l.getD i 0 ∈ l := by
  have e : l.getD i 0 = l[i] := by simp [List.getD, h]
  rw [e]
  exact List.getElem_mem h
theorem chAt_bd {p : Par} (ok : p.Ok) (t : Nat) : -100 ≤ chAt p.ch t ∧ chAt p.ch t ≤ 100 :=
  ok.chb _ (getD_mem (Nat.mod_lt _ (by have := ok.n1; omega)))
theorem nx_range {p : Par} (ok : p.Ok) {b e : Nat} (n : Nx p b e) : (onn p e = true → p.lo - 100 ≤ deg p e ∧ deg p e < p.lo) ∧ (onn p e = false → p.hi < deg p e ∧ deg p e ≤ p.hi + 300) := by
  obtain ⟨h1, r, h2⟩ := n
  obtain ⟨u, rfl⟩ : ∃ u, e = u + 1 := ⟨e - 1, by omega⟩
  have eu := r u (by omega) (by omega)
  rw [← eu] at h2
  obtain ⟨b', hb'⟩ := onn_hst p u
  have c := chAt_bd ok u
  have g1 := ok.g1
  have g2 := ok.g200
  have lh := ok.lohi
  have es : onn p (u + 1) = hst (deg p (u + 1)) p.lo p.hi (onn p u) := rfl
  have ed := deg_succ p u
  cases o : onn p u with
  | false =>
    rw [o] at h2 hb' es ed
    refine ⟨fun h3 => ?_, fun h3 => absurd h3 (by simpa using h2)⟩
    rw [h3] at es
    unfold hst at es hb'
    unfold gon at ed
    simp only [Bool.false_eq_true, if_false] at ed
    by_cases c1 : deg p (u + 1) < p.lo
    · by_cases c2 : deg p u < p.lo
      · rw [if_pos c2] at hb'; cases hb'
      · omega
    · rw [if_neg c1] at es
      split at es <;> cases es
  | true =>
    rw [o] at h2 hb' es ed
    refine ⟨fun h3 => absurd h3 (by simpa using h2), fun h3 => ?_⟩
    rw [h3] at es
    unfold hst at es hb'
    unfold gon at ed
    simp only [if_true] at ed
    by_cases c1 : deg p (u + 1) < p.lo
    · rw [if_pos c1] at es; cases es
    · rw [if_neg c1] at es
      by_cases c2 : deg p (u + 1) > p.hi
      · by_cases c3 : deg p u < p.lo
        · omega
        · rw [if_neg c3] at hb'
          by_cases c4 : deg p u > p.hi
          · rw [if_pos c4] at hb'; cases hb'
          · omega
      · rw [if_neg c2] at es; cases es
/-! ### few stretches -/
theorem pigeon : ∀ (M : Nat) {l : List Nat}, l.Nodup → (∀ x ∈ l, x < M) → l.length ≤ M
  | 0, l, _, h => by
    cases l with
    | nil => simp
    | cons a r => exact absurd (h a List.mem_cons_self) (by omega)
  | M + 1, l, nd, h => by
    by_cases c : M ∈ l
    · have := pigeon M (l := l.erase M) (nd.erase M) (fun x hx => by
        have := (nd.mem_erase_iff).mp hx
        have := h x this.2
        omega)
      rw [List.length_erase_of_mem c] at this
      omega
    · have := pigeon M nd (fun x hx => by
        have := h x hx
        have : x ≠ M := fun e => c (e ▸ hx)
        omega)
      omega
def code (p : Par) (t : Nat) : Nat := if onn p t then (t % p.ch.length) * 100 + (p.lo - 1 - deg p t).toNat else 2400 + (t % p.ch.length) * 300 + (deg p t - p.hi - 1).toNat
def Rng (p : Par) (e : Nat) : Prop := (onn p e = true → p.lo - 100 ≤ deg p e ∧ deg p e < p.lo) ∧ (onn p e = false → p.hi < deg p e ∧ deg p e ≤ p.hi + 300)
theorem code_lt {p : Par} (ok : p.Ok) {t : Nat} (r : Rng p t) : code p t < 9600 := by
  have l := Nat.mod_lt t (show 0 < p.ch.length by have := ok.n1; omega)
  have := ok.n24
  unfold code
  cases o : onn p t
  · have := r.2 o; simp; omega
  · have := r.1 o; simp; omega
theorem code_inj {p : Par} (ok : p.Ok) {t u : Nat} (r : Rng p t) (r' : Rng p u) (h : code p t = code p u) : stt p t = stt p u := by
  have l := Nat.mod_lt t (show 0 < p.ch.length by have := ok.n1; omega)
  have l' := Nat.mod_lt u (show 0 < p.ch.length by have := ok.n1; omega)
  have := ok.n24
  unfold code at h
  unfold stt
  cases o : onn p t <;> cases o' : onn p u <;> rw [o, o'] at h
  · have a := r.2 o
    have b := r'.2 o'
    simp at h
    have e1 : t % p.ch.length = u % p.ch.length := by omega
    have e2 : deg p t = deg p u := by omega
    rw [e1, e2]
  · have a := r.2 o
    have b := r'.1 o'
    simp at h
    omega
  · have a := r.1 o
    have b := r'.2 o'
    simp at h
    omega
  · have a := r.1 o
    have b := r'.1 o'
    simp at h
    have e1 : t % p.ch.length = u % p.ch.length := by omega
    have e2 : deg p t = deg p u := by omega
    rw [e1, e2]
/-- the first m begins have different states -/
def Dis (p : Par) (bs : List Nat) (m : Nat) : Prop := ∀ i j a c, i < j → j < m → bs[i]? = some a → bs[j]? = some c → stt p a ≠ stt p c
theorem few {p : Par} (ok : p.Ok) {bs : List Nat} (h : Chain p bs) {m : Nat} (hm : m ≤ bs.length) (d : Dis p bs m) : m ≤ 9601 := by
  have key := pigeon 9600 (l := ((bs.take m).drop 1).map (code p)) ?_ ?_
  · simp only [List.length_map, List.length_drop, List.length_take] at key
    omega
  · rw [List.nodup_iff_pairwise_ne, List.pairwise_map, List.pairwise_iff_getElem]
    intro i j hi hj hij
    simp only [List.length_drop, List.length_take] at hi hj
    simp only [List.getElem_drop, List.getElem_take]
    intro e
    have hr : ∀ k, (hk : 1 + k < bs.length) → Rng p bs[1 + k] := fun k hk =>
      nx_range ok (h.2 k bs[k] bs[1 + k] (by simp [show k < bs.length by omega]) (by rw [Nat.add_comm k 1]; simp [hk]))
    exact d (1 + i) (1 + j) bs[1 + i] bs[1 + j] (by omega) (by omega) (by simp [show 1 + i < bs.length by omega]) (by simp [show 1 + j < bs.length by omega]) (code_inj ok (hr i (by omega)) (hr j (by omega)) e)
  · intro x hx
    obtain ⟨y, hy, rfl⟩ := List.mem_map.mp hx
    obtain ⟨k, hk, rfl⟩ := List.mem_iff_getElem.mp hy
    simp only [List.length_drop, List.length_take] at hk
    simp only [List.getElem_drop, List.getElem_take]
    exact code_lt ok (nx_range ok (h.2 k bs[k] bs[1 + k] (by simp [show k < bs.length by omega]) (by rw [Nat.add_comm k 1]; simp [show 1 + k < bs.length by omega])))

/-! ### how long a stretch can be -/
def SB : Nat := 50000000000000
/-- a begin: the start, or where the heater has just switched -/
def Beg (p : Par) (b : Nat) : Prop := b = 0 ∨ Rng p b
theorem beg_deg {p : Par} (ok : p.Ok) {b : Nat} (h : Beg p b) : (onn p b = true → -1000000000100 ≤ deg p b) ∧ (onn p b = false → deg p b ≤ 1000000000300) := by
  have := ok.lob
  have := ok.hib
  have := ok.st1
  have := ok.st2
  rcases h with rfl | h
  · have e : deg p 0 = p.st := rfl
    rw [e]
    constructor <;> intro _ <;> omega
  · constructor
    · intro o; have := h.1 o; omega
    · intro o; have := h.2 o; omega
def sgB (p : Par) (b : Nat) : Int := sgnOf (onn p b)
def bdB (p : Par) (b : Nat) : Int := bndOf p (onn p b)
def ggB (p : Par) (b : Nat) : Int := gon p.g (onn p b)
def baB (p : Par) (b : Nat) : Int := deg p b - sumTo p.ch (ggB p b) b
theorem Dg_B (p : Par) (b t : Nat) : Dg p.ch (ggB p b) (baB p b) t = DD p b t := by
  unfold Dg baB DD ggB
  omega
theorem late {p : Par} (ok : p.Ok) {b e : Nat} (hb : Beg p b) (h : FB p.ch (ggB p b) (baB p b) b (sgB p b) (bdB p b) (some e)) : e ≤ b + SB := by
  have n1 := ok.n1
  have n24 := ok.n24
  by_cases hg : sgB p b * (bdB p b - Dg p.ch (ggB p b) (baB p b) (b + 1)) < 0
  · obtain ⟨h1, h2, h3⟩ := h
    have : e ≤ b + 1 := Nat.le_of_not_lt fun hlt => h3 (b + 1) (by omega) hlt hg
    unfold SB
    omega
  · by_cases hs : 0 < sgB p b * rsum p.ch (ggB p b)
    · have l := fb_late n1 hs h (by omega)
      have gp : sgB p b * (bdB p b - Dg p.ch (ggB p b) (baB p b) (b + 1)) ≤ 2000000000500 := by
        rw [Dg_B]
        have c := chAt_bd ok b
        have bd := beg_deg ok hb
        have := ok.g1
        have := ok.g200
        have := ok.lob
        have := ok.hib
        have es : sumTo p.ch (gon p.g (onn p b)) (b + 1) = sumTo p.ch (gon p.g (onn p b)) b + chAt p.ch b + gon p.g (onn p b) := rfl
        unfold DD
        rw [es]
        cases o : onn p b
        · have q := bd.2 o
          unfold sgB bdB sgnOf bndOf gon
          rw [o]
          simp
          omega
        · have q := bd.1 o
          unfold sgB bdB sgnOf bndOf gon
          rw [o]
          simp
          omega
      unfold cand at l
      rw [Nat.add_zero] at l
      generalize sgB p b * (bdB p b - Dg p.ch (ggB p b) (baB p b) (b + 1)) = gap at *
      generalize sgB p b * rsum p.ch (ggB p b) = sp at *
      have q1 : gap / sp ≤ gap := Int.ediv_le_self _ (by omega)
      have q2 : (gap / sp + 1).toNat ≤ 2000000000501 := by omega
      have q3 := Nat.mul_le_mul q2 n24
      unfold SB
      omega
    · obtain ⟨h1, h2, h3⟩ := h
      have : e ≤ b + p.ch.length := Nat.le_of_not_lt fun hlt => by
        refine fb_none (b := b) (bound := bdB p b) (base := baB p b) n1 (show sgB p b * rsum p.ch (ggB p b) ≤ 0 by omega) (fun i hi => h3 (b + 1 + i) (by omega) (by omega)) e h1 h2
      unfold SB
      omega
/-- FB says when the heater switches -/
theorem fb_nx {p : Par} (ok : p.Ok) {b e : Nat} (h : FB p.ch (ggB p b) (baB p b) b (sgB p b) (bdB p b) (some e)) : Nx p b e := by
  obtain ⟨h1, h2, h3⟩ := h
  refine nx_of ok.lohi h1 (fun t a c => ?_) ?_
  · have := h3 t a c; rw [Dg_B] at this; exact this
  · rw [Dg_B] at h2; exact h2
theorem fb_nev {p : Par} (ok : p.Ok) {b : Nat} (h : FB p.ch (ggB p b) (baB p b) b (sgB p b) (bdB p b) none) : Nev p b := by
  refine nev_of ok.lohi (fun t a => ?_)
  have := h t a; rw [Dg_B] at this; exact this
theorem chain_beg {p : Par} (ok : p.Ok) {bs : List Nat} (h : Chain p bs) {i b : Nat} (hi : bs[i]? = some b) : Beg p b := by
  cases i with
  | zero => rw [h.1] at hi; cases hi; exact .inl rfl
  | succ i =>
    obtain ⟨a, ha⟩ := at_some (bs := bs) (i := i) (by have := at_lt hi; omega)
    exact .inr (nx_range ok (h.2 i a b ha hi))
end Th

set_option maxHeartbeats 1000000
/-! RuD: a loop over what can be walked, in a generator's body. -/
namespace Ru
open PySem PySem.Spec PyProof.Rows GenW L2
section
variable {M : Model} {A : Around} {R : GenEnd} {Y : Protocol} {n : Nat} {s₀ s : Shared} {c : Code} {fs : List Frame} {env : Env} {K : Flow → Sem PySem.Fin} {J : Value → Sem PySem.Fin} {gd : Bool → Bool} {lv : List Value → List Value}
theorem seg_For {target iter : Expr} {body orelse : List Stmt} {pos : Pos}
    (h : wpAny M (A.over c fs) (eval iter env) (fun x s1 => wpAny M (A.over c fs) (pyIter x) (fun it s2 => ∀ p, Seg M A R Y n s₀ (.forLoop target it body orelse env) (M.den (.forLoop target it body orelse env))
      (.ret (fun r => ((match r with | .ok f => (.pure f : Sem Flow) | .error e => .raise e).onRaise (cameBack env)).wrap K J gd lv) none (gd false) (lv []) c p [] :: fs) s2) (fun x s' => Seg M A R Y n s₀ c (J x) fs s') s1) (fun x s' => Seg M A R Y n s₀ c (J x) fs s') s)
    (hs : ∀ x, foldedSetIterable iter env x = pure x := by intro _; rfl) :
    Seg M A R Y n s₀ c ((exec (.For target iter body orelse pos) env).wrap K J gd lv) fs s := by
  rw [arm_exec_For]
  refine seg_bind_wrap (wpAny_standAt ?_)
  refine seg_bind_wrap (wpAny_mono h (fun x s1 h1 => ?_) fun _ _ x => x)
  rw [hs x]
  refine seg_bind_wrap (wpAny_pure ?_)
  refine seg_bind_wrap (wpAny_standAt ?_)
  refine seg_bind_wrap (wpAny_holding (wpAny_mono h1 (fun it s2 h2 => ?_) fun _ _ x => x))
  exact seg_call h2
end
section
variable {prog : Program} {w : World} {A : Around} {R : GenEnd} {Y : Protocol} {n : Nat} {s₀ : Shared} {fs : List Frame} {s : Shared} {env : Env}
theorem seg_forLoop {target : Expr} {it : Value} {body orelse : List Stmt}
    (h : wpAny (model prog w) (A.over (.forLoop target it body orelse env) fs) (pyNext it) (fun r s1 => match r with
        | none => Seg (model prog w) A R Y n s₀ (.block orelse env) ((model prog w).den (.block orelse env)) fs s1
        | some v => wpAny (model prog w) (A.over (.forLoop target it body orelse env) fs) (letOwnedTupleGo target it v) (fun _ s1' => wpAny (model prog w) (A.over (.forLoop target it body orelse env) fs) (assign target env v) (fun _ s2 =>
          Seg (model prog w) A R Y n s₀ (.forLoop target it body orelse env) ((execs body env).wrap (fun f => match f with
            | .next | .cont => .pure (.again (.forLoop target it body orelse env))
            | .brk => .pure (.done .next)
            | .ret v => .pure (.done (.ret v))) (fun e => (do noteFrame e env; theTreesLotGoes e : Sem Unit).wrap (fun _ => .raise e) .raise id id) id id) fs s2)
          (fun x s' => Seg (model prog w) A R Y n s₀ (.forLoop target it body orelse env) ((do noteFrame x env; theTreesLotGoes x : Sem Unit).wrap (fun _ => .raise x) .raise id id) fs s') s1')
          (fun x s' => Seg (model prog w) A R Y n s₀ (.forLoop target it body orelse env) ((do noteFrame x env; theTreesLotGoes x : Sem Unit).wrap (fun _ => .raise x) .raise id id) fs s') s1)
      (fun x s' => Seg (model prog w) A R Y n s₀ (.forLoop target it body orelse env) ((do noteFrame x env; theTreesLotGoes x : Sem Unit).wrap (fun _ => .raise x) .raise id id) fs s') s) :
    Seg (model prog w) A R Y n s₀ (.forLoop target it body orelse env) ((model prog w).den (.forLoop target it body orelse env)) fs s := by
  have er : ∀ e : Value, (do noteFrame e env; theTreesLotGoes e : Sem Unit).bind (fun _ => (.raise e : Sem PySem.Fin)) = (do noteFrame e env; theTreesLotGoes e : Sem Unit).wrap (fun _ => .raise e) .raise id id := fun e => Sem.bind_eq_wrap _ _
  show Seg _ A R Y n s₀ _ ((forTurn target it body orelse env).onRaise (fun x => do noteFrame x env; theTreesLotGoes x)) fs s
  unfold forTurn
  rw [Sem.onRaise_eq_wrap]
  refine seg_bind_wrap (wpAny_standAt ?_)
  refine seg_bind_wrap (wpAny_onRaise (wpAny_mono h (fun r s1 h1 => ?_) fun x s1 hx => wpAny_standAt ?_))
  · cases r with
    | none => exact seg_again rfl h1
    | some v =>
      refine seg_bind_wrap (wpAny_mono h1 (fun _ s1' h1' => ?_) fun x s' hx => ?_)
      · refine seg_bind_wrap (wpAny_mono h1' (fun _ s2 h2 => ?_) fun x s' hx => ?_)
        · rw [Sem.bind_eq_wrap', Sem.wrap_wrap]
          rw [Sem.wrap_congr (execs body env) _ _ (K' := fun f => match f with
            | .next | .cont => .pure (.again (.forLoop target it body orelse env))
            | .brk => .pure (.done .next)
            | .ret v => .pure (.done (.ret v))) (H' := (fun e => (do noteFrame e env; theTreesLotGoes e : Sem Unit).wrap (fun _ => .raise e) .raise id id))
            (fun f => by cases f <;> rfl) (fun e => by exact er e)]
          exact h2
        · show Seg _ A R Y n s₀ _ ((do noteFrame x env; theTreesLotGoes x : Sem Unit).bind (fun _ => (.raise x : Sem PySem.Fin))) fs s'
          rw [er]; exact hx
      · show Seg _ A R Y n s₀ _ ((do noteFrame x env; theTreesLotGoes x : Sem Unit).bind (fun _ => (.raise x : Sem PySem.Fin))) fs s'
        rw [er]; exact hx
  · show Seg _ A R Y n s₀ _ ((do noteFrame x env; theTreesLotGoes x : Sem Unit).bind (fun _ => (.raise x : Sem PySem.Fin))) fs s1
    rw [er]; exact hx
end
section
variable {X : Cx} {tg : Expr}
def tGFor (wi : TI) (g : TG) (tb : TGn) : TGn := fun D ys σ H => wi σ H fun J H1 => ∃ W : Nat → Nat → List V → L2.St → Hp → Prop, (∃ m, W 0 m ys σ H1) ∧ ∀ i m ys σ H, W i m ys σ H →
  (J.stop i H ∧ D.nx ys σ H) ∨ (J.go i H ∧ ∃ N : List V → L2.St → Hp → Prop, (∀ ys' σ' H', N ys' σ' H' → ∃ m', m' < m ∧ W (i + 1) m' ys' σ' H') ∧ ∀ x H', J.yld i H x H' → g x σ H' fun σ2 H2 => tb { D with nx := N, ct := N, bk := D.nx } ys σ2 H2)
theorem _root_.L2.GI.unpinned {S : Addr} {ip pl : List (Addr × Obj)} {ys : List V} {σ : L2.St} {H : Hp} {s : Shared} (h : GI X S (ip ++ pl) ys σ H s) : GI X S ip ys σ H s := by
  obtain ⟨acc, c, r, I⟩ := h
  exact ⟨acc, c, r, Inv.unpinned (pins := (S, lstObj acc c) :: ip) (pl := pl) I⟩
theorem gs_for {iter : Expr} {body : List Stmt} {wi : TI} {g : TG} {tb : TGn} {pos : Pos} (hp : PassesOwn (model X.prog X.w) X.A X.env X.xe) (hc : X.calm = true) (hi : PI X tg iter wi) (hg : PG X tg g) (hb : GSs X body tb)
    (hs : ∀ x, foldedSetIterable iter X.env x = pure x := by intro _; rfl) : GS X (.For tg iter body [] pos) (tGFor wi g tb) := by
  refine ⟨fun A S ip R n ys s₀ c fs K J gd lv s σ H D gc hn k hI ht => ?_⟩
  obtain ⟨acc, cc, ra, I⟩ := hI
  refine seg_For ?_ hs
  rw [gc.over]
  refine wpAny_mono (hi.run _ s σ H _ I ht) (fun v s1 h1 => ?_) fun x s' hx => k.exc n s₀ x s' hx
  refine wpAny_mono h1 (fun itv s2 h2 => ?_) fun x s' hx => k.exc n s₀ x s' hx
  obtain ⟨it, fp, tn, Jt, H2, e, I2, T, st2, f2, W, ⟨m0, w0⟩, turn⟩ := h2
  subst e
  intro p
  have gl := fun (kk : Result → Sem PySem.Fin) => gc_loop (k := kk) (c' := .forLoop tg (.ref it) body [] X.env) (l := lv []) (kp := []) (p := p) gc rfl rfl
  have glb := fun (kk : Result → Sem PySem.Fin) => gc_loop (k := kk) (c' := .block [] X.env) (l := lv []) (kp := []) (p := p) gc rfl rfl
  have notS : ∀ b ∈ fp, S ≠ b := fun b hb => (f2 b hb).2.2.2.2.2 (S, lstObj acc cc) (List.mem_append_right _ List.mem_cons_self)
  have stat : ∀ {H' : Hp} (acc' : Array Value) (cc' : Nat), (∀ b ∈ fp, H' b = none) → ∀ b ∈ fp, FpOk X ((S, lstObj acc' cc') :: ip) H' b := fun acc' cc' hn b hb => by
    obtain ⟨_, q1, q2, q3, q4, q5⟩ := f2 b hb
    refine ⟨hn b hb, q1, q2, q3, q4, fun p hp => ?_⟩
    rcases List.mem_append.mp hp with hp | hp
    · exact q5 p (List.mem_append_left _ hp)
    · rcases List.mem_cons.mp hp with hp | hp
      · rw [hp]; exact notS b hb
      · exact q5 p (List.mem_append_right _ (List.mem_cons_of_mem _ hp))
  have loop : ∀ (m n i : Nat) (ys : List V) (s₀ s : Shared) (σ : L2.St) (H : Hp), n + ys.length = sizeLine → W i m ys σ H → GI X S ip ys σ H s → tn i s.heap → (∀ b ∈ fp, H b = none) →
      Seg (model X.prog X.w) A R (GY X S) n s₀ (.forLoop tg (.ref it) body [] X.env) ((model X.prog X.w).den (.forLoop tg (.ref it) body [] X.env))
        (.ret (fun r => ((match r with | .ok f => (.pure f : Sem Flow) | .error e => .raise e).onRaise (cameBack X.env)).wrap K J gd lv) none (gd false) (lv []) c p [] :: fs) s := by
    intro m
    induction m using Nat.strongRecOn with
    | ind m ih =>
      intro n i ys s₀ s σ H hn w hI st fr
      have ee : ∀ (n : Nat) (s₀ : Shared) (x : Value) (s' : Shared), X.xe x s' → Seg (model X.prog X.w) A R (GY X S) n s₀ (.forLoop tg (.ref it) body [] X.env)
          ((do noteFrame x X.env; theTreesLotGoes x : Sem Unit).wrap (fun _ => .raise x) .raise id id)
          (.ret (fun r => ((match r with | .ok f => (.pure f : Sem Flow) | .error e => .raise e).onRaise (cameBack X.env)).wrap K J gd lv) none (gd false) (lv []) c p [] :: fs) s' := fun n s₀ x s' hx => by
        refine seg_wrap ?_
        rw [(gl _).over]
        refine wpAny_bind (wpAny_mono (hp x s' hx) (fun _ s'' hcb => wpAny_theTreesLotGoes ?_) fun y s'' hcb => ?_)
        · exact seg_leaf (.error x) (seg_cameBack gc k hcb)
        · exact seg_leaf (.error y) (seg_cameBack gc k hcb)
      refine seg_forLoop ?_
      rw [(gl _).over]
      obtain ⟨acc, cc, ra, I⟩ := hI
      rcases turn i m ys σ H w with ⟨stop, qn⟩ | ⟨go, N, hN, step⟩
      · refine wpAny_mono (T.done X rfl rfl rfl hc i _ s σ H X.xe I (stat acc cc fr) st stop) (fun r s4 h4 => ?_) fun x s' hx => ee n s₀ x s' hx
        obtain ⟨hr, I4⟩ := h4
        subst hr
        show Seg _ A R (GY X S) n s₀ (.block [] X.env) (.pure (.done .next)) _ s4
        exact seg_leaf (.ok .next) (k.ok n ys s₀ s4 .next hn ⟨σ, H, ⟨acc, cc, ra, I4⟩, qn⟩)
      · refine wpAny_mono (T.item X rfl rfl rfl hc i _ s σ H X.xe I (stat acc cc fr) st go) (fun r s4 h4 => ?_) fun x s' hx => ee n s₀ x s' hx
        obtain ⟨u, hr, h4⟩ := h4
        subst hr
        refine wpAny_mono h4 (fun _ s5 h5 => ?_) fun x s' hx => ee n s₀ x s' hx
        obtain ⟨x, H5, I5, r5, y5, st5, fr5⟩ := h5
        have I5' := I5.pinned (stat acc cc fr5) (T.obj _ _ st5)
        refine wpAny_mono (hg.run _ s5 σ H5 x u _ I5' r5 (step x H5 y5)) (fun _ s6 h6 => ?_) fun x s' hx => ee n s₀ x s' hx
        obtain ⟨σ6, H6, I6, q6⟩ := h6
        have gl' : GC X S (ip ++ pinsAt fp s5.heap) A (.forLoop tg (.ref it) body [] X.env) (.ret (fun r => ((match r with | .ok f => (.pure f : Sem Flow) | .error e => .raise e).onRaise (cameBack X.env)).wrap K J gd lv) none (gd false) (lv []) c p [] :: fs) id :=
          ⟨gc.pn, fun p hp => (List.mem_append.mp hp).elim (gc.ip p) fun z => (notS _ (of_pinsAt z).1).symm, gc.apart, (gl _).over, (gl _).split, (gl _).guard, rfl⟩
        have again : ∀ {n' : Nat} {ys' : List V} {s₀' s7 : Shared} {σ7 : L2.St} {H7 : Hp}, n' + ys'.length = sizeLine → GI X S (ip ++ pinsAt fp s5.heap) ys' σ7 H7 s7 → N ys' σ7 H7 →
            Seg (model X.prog X.w) A R (GY X S) n' s₀' (.forLoop tg (.ref it) body [] X.env) ((model X.prog X.w).den (.forLoop tg (.ref it) body [] X.env))
              (.ret (fun r => ((match r with | .ok f => (.pure f : Sem Flow) | .error e => .raise e).onRaise (cameBack X.env)).wrap K J gd lv) none (gd false) (lv []) c p [] :: fs) s7 := fun {n' ys' s₀' s7 σ7 H7} hn' I7 n7 => by
          obtain ⟨m', hm, w7⟩ := hN ys' σ7 H7 n7
          refine ih m' hm n' (i + 1) ys' s₀' s7 σ7 H7 hn' w7 I7.unpinned (T.keep _ _ _ st5 fun b hb o e => ?_) fun b hb => ?_
          · obtain ⟨acc7, cc7, _, I7⟩ := I7
            exact (I7.pin (b, o) (List.mem_append_right _ (List.mem_cons_of_mem _ (List.mem_append_right _ (mem_pinsAt hb e))))).1
          · obtain ⟨o, e, d⟩ := T.obj _ _ st5 b hb
            obtain ⟨acc7, cc7, _, I7⟩ := I7
            exact (I7.pin (b, o) (List.mem_append_right _ (List.mem_cons_of_mem _ (List.mem_append_right _ (mem_pinsAt hb e))))).2.1
        have un : ∀ {n' : Nat} {ys' : List V} {s3 : Shared} {f : Flow} {D' : GEnds}, GSP X S (ip ++ pinsAt fp s5.heap) D' ys' f s3 → GSP X S ip D' ys' f s3 := fun {n' ys' s3 f D'} h => by
          cases f with
          | next => obtain ⟨a, b, c, d⟩ := h; exact ⟨a, b, c.unpinned, d⟩
          | brk => obtain ⟨a, b, c, d⟩ := h; exact ⟨a, b, c.unpinned, d⟩
          | cont => obtain ⟨a, b, c, d⟩ := h; exact ⟨a, b, c.unpinned, d⟩
          | ret v => obtain ⟨x, a, b, c, r, d⟩ := h; exact ⟨x, a, b, c.unpinned, r, d⟩
        refine hb.run A S _ R n ys s₀ _ _ _ _ id id s6 σ6 H6 { D with nx := N, ct := N, bk := D.nx } gl' hn ⟨fun n' ys' s₀' s3 f hn' hs => ?_, fun n' s₀' x s3 hx => ee n' s₀' x s3 hx⟩ ⟨acc, cc, ra, I6⟩ q6
        cases f with
        | next =>
          obtain ⟨σ3, H3, I3, n3⟩ := hs
          exact seg_again rfl (again hn' I3 n3)
        | cont =>
          obtain ⟨σ3, H3, I3, n3⟩ := hs
          exact seg_again rfl (again hn' I3 n3)
        | brk => exact seg_leaf (.ok .next) (k.ok n' ys' s₀' s3 .next hn' (un (n' := 0) hs))
        | ret v => exact seg_leaf (.ok (.ret v)) (k.ok n' ys' s₀' s3 (.ret v) hn' (un (n' := 0) hs))
  exact loop m0 n 0 ys s₀ s2 σ H2 hn w0 ⟨acc, cc, ra, I2⟩ st2 fun b hb => (f2 b hb).1
end
end Ru

set_option maxHeartbeats 1000000
/-! RuW: generators that are consumed turn by turn: the body. The base of the context (s_0) may change while the generator sleeps. -/
namespace Ru
open PySem PySem.Spec PyProof.Rows GenW L2
/-- the contexts of a generator's run: the base varies -/
def fam (X0 : Cx) (xf : Shared → Value → Shared → Prop) (θ : Shared) : Cx := { X0 with s_0 := θ, xe := xf θ }
/-- who consumes. Gd s₀ θ pk: in the state s₀ of the last wake, the base is θ, the consumer's objects are pk -/
structure Eat where
  Gd : Shared → Shared → List (Addr × Obj) → List V → Prop
  Ks : List Addr
  Z : Nat
  ks : ∀ s₀ θ pk ys, Gd s₀ θ pk ys → pk.map (·.1) = Ks
  sz : ∀ s₀ θ pk ys, Gd s₀ θ pk ys → θ.heap.objs.size = Z
theorem Eat.mem {C : Eat} {s₀ θ : Shared} {pk : List (Addr × Obj)} {ys : List V} (h : C.Gd s₀ θ pk ys) {p : Addr × Obj} (hp : p ∈ pk) : p.1 ∈ C.Ks := by
  rw [← C.ks _ _ _ _ h]; exact List.mem_map_of_mem hp
structure GEy where
  nx : List V → L2.St → Hp → Prop
  rt : List V → VK
  yd : List V → Hp → Prop
  bk : List V → L2.St → Hp → Prop := fun _ _ _ => False
  ct : List V → L2.St → Hp → Prop := fun _ _ _ => False
abbrev TGy := GEy → List V → L2.St → Hp → Prop
def GEy.at (D : GEy) (ys : List V) : Ends := { nx := D.nx ys, rt := D.rt ys, bk := D.bk ys, ct := D.ct ys }
section
variable (X0 : Cx) (xf : Shared → Value → Shared → Prop) (C : Eat)
/-- an item is handed out -/
def GYy (Yd : List V → Hp → Prop) : Protocol := fun n s₀ v s kap =>
  ∃ ys x ip σ H θ pk, n + 1 + ys.length = sizeLine ∧ RelV x v ∧ C.Gd s₀ θ pk ys ∧ (∀ p ∈ ip, p.1 ∉ C.Ks) ∧ Inv (fam X0 xf θ) (pk ++ ip) σ H s ∧ Yd (ys ++ [x]) H ∧
    ∀ s' θ' pk', C.Gd s' θ' pk' (ys ++ [x]) → Inv (fam X0 xf θ') (pk' ++ ip) σ H s' → kap (.send .none) s'
def GSPy (ip : List (Addr × Obj)) (D : GEy) (ys : List V) (s₀ : Shared) (f : Flow) (s : Shared) : Prop :=
  ∃ θ pk, C.Gd s₀ θ pk ys ∧ match f with
  | .next => ∃ σ H, Inv (fam X0 xf θ) (pk ++ ip) σ H s ∧ D.nx ys σ H
  | .brk => ∃ σ H, Inv (fam X0 xf θ) (pk ++ ip) σ H s ∧ D.bk ys σ H
  | .cont => ∃ σ H, Inv (fam X0 xf θ) (pk ++ ip) σ H s ∧ D.ct ys σ H
  | .ret u => ∃ v σ H, Inv (fam X0 xf θ) (pk ++ ip) σ H s ∧ RelV v u ∧ D.rt ys v H
/-- where the generator's code stands -/
structure GCy (ip : List (Addr × Obj)) (A : Around) (c : Code) (fs : List Frame) (gd : Bool → Bool) : Prop where
  ip : ∀ p ∈ ip, p.1 ∉ C.Ks
  over : A.over c fs = X0.A
  split : splitAtGen fs = none
  guard : fs.any Frame.guarded = false
  gd : gd false = false
structure GKy (ip : List (Addr × Obj)) (A : Around) (R : GenEnd) (c : Code) (fs : List Frame) (K : Flow → Sem PySem.Fin) (J : Value → Sem PySem.Fin) (D : GEy) : Prop where
  ok : ∀ (n : Nat) (ys : List V) (s₀ s : Shared) (f : Flow), n + ys.length = sizeLine → GSPy X0 xf C ip D ys s₀ f s → Seg (model X0.prog X0.w) A R (GYy X0 xf C D.yd) n s₀ c (K f) fs s
  exc : ∀ (n : Nat) (s₀ θ : Shared) (pk : List (Addr × Obj)) (ys : List V) (e : Value) (s : Shared), C.Gd s₀ θ pk ys → xf θ e s → Seg (model X0.prog X0.w) A R (GYy X0 xf C D.yd) n s₀ c (J e) fs s
end
structure GSy (X0 : Cx) (xf : Shared → Value → Shared → Prop) (st : Stmt) (t : TGy) : Prop where
  run : ∀ (C : Eat) (A : Around) (ip : List (Addr × Obj)) (R : GenEnd) (n : Nat) (ys : List V) (s₀ : Shared) (c : Code) (fs : List Frame) (K : Flow → Sem PySem.Fin) (J : Value → Sem PySem.Fin) (gd : Bool → Bool) (lv : List Value → List Value) (s : Shared) (σ : L2.St) (H : Hp) (D : GEy) (θ : Shared) (pk : List (Addr × Obj)),
    GCy X0 C ip A c fs gd → C.Gd s₀ θ pk ys → n + ys.length = sizeLine → GKy X0 xf C ip A R c fs K J D → Inv (fam X0 xf θ) (pk ++ ip) σ H s → t D ys σ H →
    Seg (model X0.prog X0.w) A R (GYy X0 xf C D.yd) n s₀ c ((exec st X0.env).wrap K J gd lv) fs s
structure GSsy (X0 : Cx) (xf : Shared → Value → Shared → Prop) (st : List Stmt) (t : TGy) : Prop where
  run : ∀ (C : Eat) (A : Around) (ip : List (Addr × Obj)) (R : GenEnd) (n : Nat) (ys : List V) (s₀ : Shared) (c : Code) (fs : List Frame) (K : Flow → Sem PySem.Fin) (J : Value → Sem PySem.Fin) (gd : Bool → Bool) (lv : List Value → List Value) (s : Shared) (σ : L2.St) (H : Hp) (D : GEy) (θ : Shared) (pk : List (Addr × Obj)),
    GCy X0 C ip A c fs gd → C.Gd s₀ θ pk ys → n + ys.length = sizeLine → GKy X0 xf C ip A R c fs K J D → Inv (fam X0 xf θ) (pk ++ ip) σ H s → t D ys σ H →
    Seg (model X0.prog X0.w) A R (GYy X0 xf C D.yd) n s₀ c ((execs st X0.env).wrap K J gd lv) fs s
section
variable {X0 : Cx} {xf : Shared → Value → Shared → Prop} {st : Stmt} {rest : List Stmt}
def tPlainY (t : TS) : TGy := fun D ys σ H => t (D.at ys) σ H
theorem sp_gspy {C : Eat} {ip pk : List (Addr × Obj)} {θ s₀ s : Shared} {D : GEy} {ys : List V} {f : Flow} (g : C.Gd s₀ θ pk ys) (h : SP (fam X0 xf θ) (pk ++ ip) (D.at ys) f s) : GSPy X0 xf C ip D ys s₀ f s := by
  refine ⟨θ, pk, g, ?_⟩
  cases f with
  | next => exact h
  | brk => exact h
  | cont => exact h
  | ret u => exact h
theorem gy_ps {t : TS} (h : ∀ θ, PS (fam X0 xf θ) st t) : GSy X0 xf st (tPlainY t) := by
  refine ⟨fun C A ip R n ys s₀ c fs K J gd lv s σ H D θ pk gc g hn k I ht => ?_⟩
  refine seg_wrap ?_
  rw [gc.over]
  exact wpAny_mono ((h θ).run _ s σ H (D.at ys) I ht) (fun f s' hs => k.ok n ys s₀ s' f hn (sp_gspy g hs)) fun x s' hx => k.exc n s₀ θ pk ys x s' g hx
theorem gys_pss {t : TS} (h : ∀ θ, PSs (fam X0 xf θ) rest t) : GSsy X0 xf rest (tPlainY t) := by
  refine ⟨fun C A ip R n ys s₀ c fs K J gd lv s σ H D θ pk gc g hn k I ht => ?_⟩
  refine seg_wrap ?_
  rw [gc.over]
  exact wpAny_mono ((h θ).run _ s σ H (D.at ys) I ht) (fun f s' hs => k.ok n ys s₀ s' f hn (sp_gspy g hs)) fun x s' hx => k.exc n s₀ θ pk ys x s' g hx
def tY0 : TGy := fun D ys σ H => D.nx ys σ H
theorem gys_nil : GSsy X0 xf [] tY0 := by
  refine ⟨fun C A ip R n ys s₀ c fs K J gd lv s σ H D θ pk gc g hn k I ht => ?_⟩
  exact seg_execs_nil (k.ok n ys s₀ s .next hn ⟨θ, pk, g, σ, H, I, ht⟩)
def tYThen (t u : TGy) : TGy := fun D ys σ H => t { D with nx := fun ys' σ' H' => u D ys' σ' H' } ys σ H
theorem gys_cons {t u : TGy} (a : GSy X0 xf st t) (b : GSsy X0 xf rest u) : GSsy X0 xf (st :: rest) (tYThen t u) := by
  refine ⟨fun C A ip R n ys s₀ c fs K J gd lv s σ H D θ pk gc g hn k I ht => ?_⟩
  refine seg_execs_cons ?_
  refine a.run C A ip R n ys s₀ c fs _ J gd lv s σ H { D with nx := fun ys' σ' H' => u D ys' σ' H' } θ pk gc g hn ⟨fun n' ys' s₀' s' f hn' hs => ?_, k.exc⟩ I ht
  obtain ⟨θ', pk', g', hs⟩ := hs
  cases f with
  | next =>
    obtain ⟨σ', H', I', q⟩ := hs
    exact b.run C A ip R n' ys' s₀' c fs K J gd lv s' σ' H' D θ' pk' gc g' hn' k I' q
  | brk => exact k.ok n' ys' s₀' s' .brk hn' ⟨θ', pk', g', hs⟩
  | cont => exact k.ok n' ys' s₀' s' .cont hn' ⟨θ', pk', g', hs⟩
  | ret u => exact k.ok n' ys' s₀' s' (.ret u) hn' ⟨θ', pk', g', hs⟩
def tYYield (te : TE) : TGy := fun D ys σ H => ys.length < sizeLine ∧ te σ H fun x H1 => D.yd (ys ++ [x]) H1 ∧ D.nx (ys ++ [x]) σ H1
theorem gy_yield {e : Expr} {yp pos : Pos} {te : TE} (he : ∀ θ, PE (fam X0 xf θ) e te) (hco : X0.env.scope.isCoroutine = false := by rfl) (hi : interactive X0.env = false := by rfl) : GSy X0 xf (.Expr (.Yield (some e) yp) pos) (tYYield te) := by
  refine ⟨fun C A ip R n ys s₀ c fs K J gd lv s σ H D θ pk gc g hn k I ht => ?_⟩
  obtain ⟨hlt, ht⟩ := ht
  obtain ⟨n, rfl⟩ : ∃ m, n = m + 1 := ⟨n - 1, by omega⟩
  refine seg_Expr_Yield gc.split gc.gd gc.guard ?_ hco hi
  rw [gc.over]
  refine wpAny_mono ((he θ).run _ s σ H _ I ht) (fun v s' hv => ?_) fun x s' hx => k.exc _ s₀ θ pk ys x s' g hx
  obtain ⟨x, H1, I1, rv, qy, q⟩ := hv
  intro kap hk
  refine ⟨ys, x, ip, σ, H1, θ, pk, hn, rv, g, gc.ip, I1, qy, fun s'' θ' pk' g' I' => hk .none s'' ?_⟩
  refine k.ok n (ys ++ [x]) s'' s'' .next ?_ ⟨θ', pk', g', σ, H1, I', q⟩
  rw [List.length_append, List.length_singleton]; omega
/-! ### a loop within the generator -/
theorem gcy_loop {C : Eat} {ip : List (Addr × Obj)} {A : Around} {c c' : Code} {fs : List Frame} {gd : Bool → Bool} {k : Result → Sem PySem.Fin} {l kp : List Value} {p : Pos} (g : GCy X0 C ip A c fs gd) (hw : c'.weight = 0) (hu : c'.cUnits = 0) :
    GCy X0 C ip A c' (.ret k none (gd false) l c p kp :: fs) id where
  ip := g.ip
  over := (over_loop hw hu).trans g.over
  split := by
    show (splitAtGen fs).map _ = none
    rw [g.split]; rfl
  guard := by
    show (gd false || fs.any Frame.guarded) = false
    rw [g.gd, g.guard]; rfl
  gd := rfl
theorem segy_cameBack {C : Eat} {ip : List (Addr × Obj)} {A : Around} {R : GenEnd} {c : Code} {fs : List Frame} {K : Flow → Sem PySem.Fin} {J : Value → Sem PySem.Fin} {gd : Bool → Bool} {lv : List Value → List Value} {D : GEy} {n : Nat} {s₀ s θ : Shared} {pk : List (Addr × Obj)} {e : Value}
    (g : GCy X0 C ip A c fs gd) {ys : List V} (k : GKy X0 xf C ip A R c fs K J D) (gg : C.Gd s₀ θ pk ys) (h : cameBackBy (model X0.prog X0.w) X0.A X0.env (xf θ) e s) :
    Seg (model X0.prog X0.w) A R (GYy X0 xf C D.yd) n s₀ c (((Sem.raise e : Sem Flow).onRaise (cameBack X0.env)).wrap K J gd lv) fs s := by
  show Seg _ _ _ _ _ _ _ (((cameBack X0.env e).bind fun _ => (Sem.raise e : Sem Flow)).wrap K J gd lv) _ _
  rw [Sem.bind_eq_wrap, Sem.wrap_wrap]
  refine seg_wrap ?_
  rw [g.over]
  exact wpAny_mono h (fun _ s' hx => k.exc n s₀ θ pk ys e s' gg hx) fun x s' hx => k.exc n s₀ θ pk ys x s' gg hx
def tYFor (wi : TI) (g : TG) (tb : TGy) : TGy := fun D ys σ H => wi σ H fun J H1 => ∃ W : Nat → Nat → List V → L2.St → Hp → Prop, (∃ m, W 0 m ys σ H1) ∧ ∀ i m ys σ H, W i m ys σ H →
  (J.stop i H ∧ D.nx ys σ H) ∨ (J.go i H ∧ ∃ N : List V → L2.St → Hp → Prop, (∀ ys' σ' H', N ys' σ' H' → ∃ m', m' < m ∧ W (i + 1) m' ys' σ' H') ∧ ∀ x H', J.yld i H x H' → g x σ H' fun σ2 H2 => tb { D with nx := N, ct := N, bk := D.nx } ys σ2 H2)
theorem pins_app {a b c : List (Addr × Obj)} : a ++ (b ++ c) = (a ++ b) ++ c := (List.append_assoc a b c).symm
theorem gy_for {tg iter : Expr} {body : List Stmt} {wi : TI} {g : TG} {tb : TGy} {pos : Pos} (hp : ∀ θ, PassesOwn (model X0.prog X0.w) X0.A X0.env (xf θ)) (hc : X0.calm = true) (hi : ∀ θ, PI (fam X0 xf θ) tg iter wi) (hg : ∀ θ, PG (fam X0 xf θ) tg g) (hb : GSsy X0 xf body tb)
    (hs : ∀ x, foldedSetIterable iter X0.env x = pure x := by intro _; rfl) : GSy X0 xf (.For tg iter body [] pos) (tYFor wi g tb) := by
  refine ⟨fun C A ip R n ys s₀ c fs K J gd lv s σ H D θ pk gc g0 hn k I ht => ?_⟩
  refine seg_For ?_ hs
  rw [gc.over]
  refine wpAny_mono ((hi θ).run _ s σ H _ I ht) (fun v s1 h1 => ?_) fun x s' hx => k.exc n s₀ θ pk ys x s' g0 hx
  refine wpAny_mono h1 (fun itv s2 h2 => ?_) fun x s' hx => k.exc n s₀ θ pk ys x s' g0 hx
  obtain ⟨it, fp, tn, Jt, H2, e, I2, T, st2, f2, W, ⟨m0, w0⟩, turn⟩ := h2
  subst e
  intro p
  have gl := fun (kk : Result → Sem PySem.Fin) => gcy_loop (k := kk) (c' := .forLoop tg (.ref it) body [] X0.env) (l := lv []) (kp := []) (p := p) gc rfl rfl
  have notK : ∀ b ∈ fp, b ∉ C.Ks := fun b hb hm => by
    rw [← C.ks _ _ _ _ g0] at hm
    obtain ⟨q, hq, e⟩ := List.mem_map.mp hm
    exact (f2 b hb).2.2.2.2.2 q (List.mem_append_right _ (List.mem_append_left _ hq)) e
  have stat : ∀ {H' : Hp} {s₀' θ' : Shared} {pk' : List (Addr × Obj)} {ys' : List V}, C.Gd s₀' θ' pk' ys' → (∀ b ∈ fp, H' b = none) → ∀ b ∈ fp, FpOk (fam X0 xf θ') (pk' ++ ip) H' b := fun {H' s₀' θ' pk' ys'} g' hn b hb => by
    obtain ⟨_, q1, q2, q3, q4, q5⟩ := f2 b hb
    refine ⟨hn b hb, q1, q2, ?_, q4, fun p hp => ?_⟩
    · rcases q3 with z | z
      · exact .inl z
      · refine .inr ?_
        have e1 := C.sz _ _ _ _ g0
        have e2 := C.sz _ _ _ _ g'
        have z : θ.heap.objs.size ≤ b := z
        show θ'.heap.objs.size ≤ b
        omega
    · rcases List.mem_append.mp hp with hp | hp
      · exact q5 p (List.mem_append_left _ hp)
      · rcases List.mem_append.mp hp with hp | hp
        · exact fun e => notK b hb (e ▸ C.mem g' hp)
        · exact q5 p (List.mem_append_right _ (List.mem_append_right _ hp))
  have loop : ∀ (m n i : Nat) (ys : List V) (s₀ s : Shared) (σ : L2.St) (H : Hp) (θ : Shared) (pk : List (Addr × Obj)), C.Gd s₀ θ pk ys → n + ys.length = sizeLine → W i m ys σ H → Inv (fam X0 xf θ) (pk ++ ip) σ H s → tn i s.heap → (∀ b ∈ fp, H b = none) →
      Seg (model X0.prog X0.w) A R (GYy X0 xf C D.yd) n s₀ (.forLoop tg (.ref it) body [] X0.env) ((model X0.prog X0.w).den (.forLoop tg (.ref it) body [] X0.env))
        (.ret (fun r => ((match r with | .ok f => (.pure f : Sem Flow) | .error e => .raise e).onRaise (cameBack X0.env)).wrap K J gd lv) none (gd false) (lv []) c p [] :: fs) s := by
    intro m
    induction m using Nat.strongRecOn with
    | ind m ih =>
      intro n i ys s₀ s σ H θ pk g1 hn w I st fr
      have ee : ∀ (n : Nat) (s₀ θ : Shared) (pk : List (Addr × Obj)) (ys : List V) (x : Value) (s' : Shared), C.Gd s₀ θ pk ys → xf θ x s' → Seg (model X0.prog X0.w) A R (GYy X0 xf C D.yd) n s₀ (.forLoop tg (.ref it) body [] X0.env)
          ((do noteFrame x X0.env; theTreesLotGoes x : Sem Unit).wrap (fun _ => .raise x) .raise id id)
          (.ret (fun r => ((match r with | .ok f => (.pure f : Sem Flow) | .error e => .raise e).onRaise (cameBack X0.env)).wrap K J gd lv) none (gd false) (lv []) c p [] :: fs) s' := fun n s₀ θ pk ys x s' gx hx => by
        refine seg_wrap ?_
        rw [(gl _).over]
        refine wpAny_bind (wpAny_mono (hp θ x s' hx) (fun _ s'' hcb => wpAny_theTreesLotGoes ?_) fun y s'' hcb => ?_)
        · exact seg_leaf (.error x) (segy_cameBack gc k gx hcb)
        · exact seg_leaf (.error y) (segy_cameBack gc k gx hcb)
      refine seg_forLoop ?_
      rw [(gl _).over]
      rcases turn i m ys σ H w with ⟨stop, qn⟩ | ⟨go, N, hN, step⟩
      · refine wpAny_mono (T.done (fam X0 xf θ) rfl rfl rfl hc i _ s σ H (xf θ) I (stat g1 fr) st stop) (fun r s4 h4 => ?_) fun x s' hx => ee n s₀ θ pk ys x s' g1 hx
        obtain ⟨hr, I4⟩ := h4
        subst hr
        show Seg _ A R (GYy X0 xf C D.yd) n s₀ (.block [] X0.env) (.pure (.done .next)) _ s4
        exact seg_leaf (.ok .next) (k.ok n ys s₀ s4 .next hn ⟨θ, pk, g1, σ, H, I4, qn⟩)
      · refine wpAny_mono (T.item (fam X0 xf θ) rfl rfl rfl hc i _ s σ H (xf θ) I (stat g1 fr) st go) (fun r s4 h4 => ?_) fun x s' hx => ee n s₀ θ pk ys x s' g1 hx
        obtain ⟨u, hr, h4⟩ := h4
        subst hr
        refine wpAny_mono h4 (fun _ s5 h5 => ?_) fun x s' hx => ee n s₀ θ pk ys x s' g1 hx
        obtain ⟨x, H5, I5, r5, y5, st5, fr5⟩ := h5
        have I5' := I5.pinned (stat g1 fr5) (T.obj _ _ st5)
        rw [← pins_app] at I5'
        refine wpAny_mono ((hg θ).run _ s5 σ H5 x u _ I5' r5 (step x H5 y5)) (fun _ s6 h6 => ?_) fun x s' hx => ee n s₀ θ pk ys x s' g1 hx
        obtain ⟨σ6, H6, I6, q6⟩ := h6
        have gl' : GCy X0 C (ip ++ pinsAt fp s5.heap) A (.forLoop tg (.ref it) body [] X0.env) (.ret (fun r => ((match r with | .ok f => (.pure f : Sem Flow) | .error e => .raise e).onRaise (cameBack X0.env)).wrap K J gd lv) none (gd false) (lv []) c p [] :: fs) id :=
          ⟨fun p hp => (List.mem_append.mp hp).elim (gc.ip p) fun z => notK _ (of_pinsAt z).1, (gl _).over, (gl _).split, (gl _).guard, rfl⟩
        have unp : ∀ {θ' : Shared} {pk' : List (Addr × Obj)} {σ7 : L2.St} {H7 : Hp} {s7 : Shared}, Inv (fam X0 xf θ') (pk' ++ (ip ++ pinsAt fp s5.heap)) σ7 H7 s7 → Inv (fam X0 xf θ') (pk' ++ ip) σ7 H7 s7 := fun {θ' pk' σ7 H7 s7} I7 => by
          rw [pins_app] at I7
          exact I7.unpinned
        have again : ∀ {n' : Nat} {ys' : List V} {s₀' s7 θ' : Shared} {pk' : List (Addr × Obj)} {σ7 : L2.St} {H7 : Hp}, C.Gd s₀' θ' pk' ys' → n' + ys'.length = sizeLine → Inv (fam X0 xf θ') (pk' ++ (ip ++ pinsAt fp s5.heap)) σ7 H7 s7 → N ys' σ7 H7 →
            Seg (model X0.prog X0.w) A R (GYy X0 xf C D.yd) n' s₀' (.forLoop tg (.ref it) body [] X0.env) ((model X0.prog X0.w).den (.forLoop tg (.ref it) body [] X0.env))
              (.ret (fun r => ((match r with | .ok f => (.pure f : Sem Flow) | .error e => .raise e).onRaise (cameBack X0.env)).wrap K J gd lv) none (gd false) (lv []) c p [] :: fs) s7 := fun {n' ys' s₀' s7 θ' pk' σ7 H7} g' hn' I7 n7 => by
          obtain ⟨m', hm, w7⟩ := hN ys' σ7 H7 n7
          have pn : ∀ b ∈ fp, ∀ o, s5.heap.get? b = some o → s7.heap.get? b = some o ∧ H7 b = none := fun b hb o e =>
            let z := I7.pin (b, o) (List.mem_append_right _ (List.mem_append_right _ (List.mem_append_right _ (mem_pinsAt hb e))))
            ⟨z.1, z.2.1⟩
          refine ih m' hm n' (i + 1) ys' s₀' s7 σ7 H7 θ' pk' g' hn' w7 (unp I7) (T.keep _ _ _ st5 fun b hb o e => (pn b hb o e).1) fun b hb => ?_
          obtain ⟨o, e, d⟩ := T.obj _ _ st5 b hb
          exact (pn b hb o e).2
        refine hb.run C A _ R n ys s₀ _ _ _ _ id id s6 σ6 H6 { D with nx := N, ct := N, bk := D.nx } θ pk gl' g1 hn ⟨fun n' ys' s₀' s3 f hn' hs => ?_, fun n' s₀' θ' pk' ys' x s3 gx hx => ee n' s₀' θ' pk' ys' x s3 gx hx⟩ I6 q6
        obtain ⟨θ', pk', g', hs⟩ := hs
        cases f with
        | next =>
          obtain ⟨σ3, H3, I3, n3⟩ := hs
          exact seg_again rfl (again g' hn' I3 n3)
        | cont =>
          obtain ⟨σ3, H3, I3, n3⟩ := hs
          exact seg_again rfl (again g' hn' I3 n3)
        | brk =>
          obtain ⟨σ3, H3, I3, n3⟩ := hs
          exact seg_leaf (.ok .next) (k.ok n' ys' s₀' s3 .next hn' ⟨θ', pk', g', σ3, H3, unp I3, n3⟩)
        | ret v =>
          obtain ⟨x3, σ3, H3, I3, r3, n3⟩ := hs
          exact seg_leaf (.ok (.ret v)) (k.ok n' ys' s₀' s3 (.ret v) hn' ⟨θ', pk', g', x3, σ3, H3, unp I3, r3, n3⟩)
  exact loop m0 n 0 ys s₀ s2 σ H2 θ pk g0 hn w0 I2 st2 fun b hb => (f2 b hb).1
end
end Ru

set_option maxHeartbeats 1000000
/-! RuX: a generator def's promise, turn by turn -/
namespace Ru
open PySem PySem.Spec PyProof.Rows GenW L2
/-- what an exception brings out of the generator's frame -/
def xfG (P : Program) (w : World) (qual : Str) (scope : Scope) (f : Addr) (cd : Value) (A : Around) (outer : List Env) (s : Shared) (H : Hp) (E : XK) (pn : List (Addr × Obj)) : Shared → Value → Shared → Prop := fun θ e s' =>
  wpAny (model P w) (A.deeper (envOfC qual scope s.heap.objs.size f cd)) (leaving (envOfC qual scope s.heap.objs.size f cd) e) (fun _ s'' => CX P w outer H θ E e s'' ∧ ∀ p ∈ pn, s''.heap.get? p.1 = some p.2) (fun _ _ => False) s'
abbrev famG (P : Program) (w : World) (K : PySem.W.Frag) (mg : Str → Option Value) (base : Heap) (N : List Str) (qual : Str) (scope : Scope) (f : Addr) (cd : Value) (A : Around) (outer : List Env) (s : Shared) (H : Hp) (E : XK) (pn : List (Addr × Obj)) (θ : Shared) : Cx :=
  fam (gcxOf P w K mg base N qual scope f cd A outer s H E pn) (xfG P w qual scope f cd A outer s H E pn) θ
section
variable {P : Program} {w : World} {K : PySem.W.Frag} {mg : Str → Option Value} {base : Heap} {N : List Str} {qual : Str} {scope : Scope} {f : Addr} {cd : Value} {A : Around} {outer : List Env} {s : Shared} {H : Hp} {E : XK} {pn : List (Addr × Obj)}
theorem takes_fam {θ : Shared} : Takes (famG P w K mg base N qual scope f cd A outer s H E pn θ) (fun cls d _ H' => E cls d H') := fun u s' x =>
  XE.leaveG (X := famG P w K mg base N qual scope f cd A outer s H E pn θ) (W := fun cls d _ H' => E cls d H') (E := E) rfl rfl rfl (fun _ _ _ _ h => h) x
theorem owns_fam {θ : Shared} : PassesOwn (model P w) (A.deeper (envOfC qual scope s.heap.objs.size f cd)) (envOfC qual scope s.heap.objs.size f cd) (xfG P w qual scope f cd A outer s H E pn θ) :=
  PassesOwn.leaving (Q₁ := fun e s'' => CX P w outer H θ E e s'' ∧ ∀ p ∈ pn, s''.heap.get? p.1 = some p.2)
end
/-- a generator def's promise: the arguments, the heap, what is wanted of each item, of the end, of an exception -/
abbrev SpY := List V → Hp → (List V → Hp → Prop) → (List V → Hp → Prop) → XK → Prop
/-- the end of a run -/
def REndY (X0 : Cx) (xf : Shared → Value → Shared → Prop) (P : Program) (w : World) (outer : List Env) (H : Hp) (a : Addr) (g : Nat) (C : Eat) (Qd : List V → Hp → Prop) (E : XK) : GenEnd := fun n s₀ r s1 =>
  ((r = .ok (.ret .none) ∨ r = .ok .next) ∧ ∃ ys ip σ H1 θ pk, n + ys.length = sizeLine ∧ C.Gd s₀ θ pk ys ∧ Inv (fam X0 xf θ) (pk ++ ip) σ H1 s1 ∧ Qd ys H1) ∨
  ∃ e, r = .error e ∧ (∃ θ pk ys, C.Gd s₀ θ pk ys ∧ CX P w outer H θ E e s1) ∧ s1.heap.IsGen a g
/-- what a call of a generator def gives: a generator that has not begun -/
def GMadeY (P : Program) (w : World) (K : PySem.W.Frag) (mg : Str → Option Value) (base : Heap) (k : Nat) (outer : List Env) (H : Hp) (s : Shared) (Yd Qd : List V → Hp → Prop) (E : XK) (u : Value) (s' : Shared) : Prop :=
  ∃ (a : Addr) (g : Nat) (c : Code), u = .ref a ∧ s.heap.objs.size ≤ a ∧ a < s'.heap.objs.size ∧ s'.heap.IsGen a g ∧ s'.gens[g]? = some (.fresh c) ∧ s'.os = s.os ∧ AllBare s'.gens ∧ s'.heap.NoLimit ∧ (∀ b o, s.heap.get? b = some o → s'.heap.get? b = some o) ∧
    ∀ (A : Around), Room k A → A.frames = some outer → ∃ (N : List Str) (qual : Str) (scope : Scope) (f : Addr) (cd : Value) (go : Obj) (σ0 : L2.St),
      (∀ h : Heap, h.get? a = some go → h.IsGen a g) ∧ Inv (famG P w K mg base N qual scope f cd A outer s H E [(a, go)] s) [] σ0 H s' ∧ s.heap.objs.size < s'.heap.objs.size ∧
      ∀ (C : Eat) (s2 θ : Shared) (pk : List (Addr × Obj)), C.Gd s2 θ pk [] → Inv (famG P w K mg base N qual scope f cd A outer s H E [(a, go)] θ) pk σ0 H s2 →
        Seg (model P w) A (REndY (gcxOf P w K mg base N qual scope f cd A outer s H E [(a, go)]) (xfG P w qual scope f cd A outer s H E [(a, go)]) P w outer H a g C Qd E)
          (GYy (gcxOf P w K mg base N qual scope f cd A outer s H E [(a, go)]) (xfG P w qual scope f cd A outer s H E [(a, go)]) C Yd) sizeLine s2 c ((model P w).den c) [] s2
structure GFnY (P : Program) (w : World) (K : PySem.W.Frag) (mg : Str → Option Value) (base : Heap) (k : Nat) (f : Addr) (fd : FuncData) (ps : List Str) (sp : SpY) : Prop where
  len : ∀ vs H Yd Qd E, sp vs H Yd Qd E → vs.length = ps.length
  run : ∀ (A : Around) (outer : List Env) (s : Shared) (H : Hp) (args : Args) (us : List Value) (vs : List V) (Yd Qd : List V → Hp → Prop) (E : XK), Room k A → Env0 P w K mg base A outer s H → BindsTo s fd args (ps.zip us) → Vals vs us → sp vs H Yd Qd E →
    codeAny (model P w) A (.call (.ref f) args) (fun r s' => match r with | .ok (.ret u) => GMadeY P w K mg base k outer H s Yd Qd E u s' | _ => False) s
/-- THE RULE: a generator def, by its body -/
theorem gfnY_of {P : Program} {w : World} {K : PySem.W.Frag} {mg : Str → Option Value} {base : Heap} {k : Nat} {f : Addr} {name qual : Str} {params : Arguments} {body : List Stmt} {scope : Scope} {dV kV doc pm cdv ct oc : Value} {an od : Option Addr}
    {osl : Array (Option Value)} {N ps : List Str} {sp : SpY} (lk : K.lookup f = some ⟨oc, od, .func (PySem.W.fnOf name qual params body scope dV kV doc pm an cdv ct), osl⟩) (hcd : PySem.W.codeIn K cdv qual = true) (S : GScope N ps scope)
    (len : ∀ vs H Yd Qd E, sp vs H Yd Qd E → vs.length = ps.length)
    (hbody : ∀ (A : Around) (outer : List Env) (s : Shared) (H : Hp) (vs : List V) (Yd Qd : List V → Hp → Prop) (E : XK) (pn : List (Addr × Obj)), Room k (A.deeper (envOfC qual scope s.heap.objs.size f cdv)) → sp vs H Yd Qd E →
      ∃ t, GSsy (gcxOf P w K mg base N qual scope f cdv A outer s H E pn) (xfG P w qual scope f cdv A outer s H E pn) body t ∧ t { nx := fun ys _ H' => Qd ys H', rt := fun ys v H' => v = .non ∧ Qd ys H', yd := Yd } [] (start N vs) H) :
    GFnY P w K mg base (k + 1) f (PySem.W.fnOf name qual params body scope dV kV doc pm an cdv ct) ps sp := by
  refine ⟨len, fun A outer s H args us vs Yd Qd E hr e0 hb r hsp => ?_⟩
  have hl := len _ _ _ _ _ hsp
  have KX : K.In s.heap := e0.mod.kin.keeps fun b o e => (e0.bs b o e).1
  have lim : s.heap.NoLimit := e0.mod.nolimit.keeps fun b o e => (e0.bs b o e).1
  have hkind : ∀ y ∈ ps.zip us, scope.names.lookup y.1 = some .local ∨ (scope.names.lookup y.1 = some .cell ∧ ((cellsFrom (s.heap.objs.size + 1) scope.names []).lookup y.1).isSome = true) := fun ⟨n, v⟩ hy => by
    rcases S.par n (List.of_mem_zip hy).1 with q | q
    · exact .inl q
    · exact .inr ⟨q, PySem.W.cellsFrom_some _ _ _ (.inl q)⟩
  refine codeAny_call_generator hr.depth (KX _ _ lk) rfl S.co S.gen rfl (PySem.W.codeRec_of KX hcd) (hb _ _ _ _ ?_)
  refine wpAny_newFunctionEnv_cells S.kind hkind fun env he s1 x => ?_
  subst he
  have lim1 : s1.heap.NoLimit := lim.keeps x.toInCall.keep
  refine ⟨lim1, ?_⟩
  obtain ⟨h1, tk, es1, hk1⟩ := x.done
  have os1 : s1.os = s.os := by rw [es1]
  have gen1 : s1.gens = s.gens := by rw [es1]
  have lt1 : s.heap.objs.size < s1.heap.objs.size := x.toInCall.ns.lt
  have sz1 : s.heap.objs.size ≤ s1.heap.objs.size := Nat.le_of_lt lt1
  have kp1 : ∀ b o, s.heap.get? b = some o → s1.heap.get? b = some o := x.toInCall.keep
  have main : ∀ (go : Obj) (nm qn : Value) (tk2 : Nat), go.cls = .type "generator" → go.data = .fields #[.int s1.gens.size 0, nm, qn] → go.slots = #[] → (∀ h : Heap, (h.push go).get? h.objs.size = some go) →
      GMadeY P w K mg base (k + 1) outer H s Yd Qd E (.ref s1.heap.objs.size) { s1 with gens := s1.gens.push (.fresh (.func body (envOfC qual scope s.heap.objs.size f cdv))), toks := tk2, heap := s1.heap.push go } := by
    intro go nm qn tk2 hgc hgd0 hgs hgp
    have hgen : ∀ h : Heap, h.get? s1.heap.objs.size = some go → h.IsGen s1.heap.objs.size s1.gens.size := fun h e => ⟨go, nm, qn, e, hgc, hgd0, hgs⟩
    have hpushed : (s1.heap.push go).get? s1.heap.objs.size = some go := hgp _
    have bare2 : AllBare (s1.gens.push (.fresh (.func body (envOfC qual scope s.heap.objs.size f cdv)))) := AllBare.push (by rw [gen1]; exact e0.bare) rfl
    refine ⟨s1.heap.objs.size, s1.gens.size, _, rfl, sz1, ?_, hgen _ hpushed, Array.getElem?_push_size .., os1, bare2, lim1.keeps fun b o e => Heap.get?_push_of_some _ e, fun b o e => Heap.get?_push_of_some _ (kp1 b o e), ?_⟩
    · show _ < (s1.heap.push _).objs.size
      rw [Heap.size_push]; exact Nat.lt_succ_self _
    intro Aw hrw hfr
    have e0w : Env0 P w K mg base Aw outer s H := ⟨hfr, e0.mod, e0.bs, e0.bsz, e0.funs, e0.frf, e0.hok, e0.bare⟩
    obtain ⟨t, ht, hq⟩ := hbody Aw outer s H vs Yd Qd E [(s1.heap.objs.size, go)] (hrw.deeper _) hsp
    have I1 : Inv (gcxOf P w K mg base N qual scope f cdv Aw outer s H E []) [] (start N vs) H s1 := inv_startG S hrw.hd e0w hl r x
    have kp2 : ∀ b o, s1.heap.get? b = some o → (s1.heap.push go).get? b = some o := fun b o e => Heap.get?_push_of_some _ e
    have I2 : Inv (gcxOf P w K mg base N qual scope f cdv Aw outer s H E []) [] (start N vs) H { s1 with gens := s1.gens.push (.fresh (.func body (envOfC qual scope s.heap.objs.size f cdv))), toks := tk2, heap := s1.heap.push go } :=
      I1.call' (ch := []) rfl (Un.kept kp2) (I1.hok.kept kp2) bare2 fun b z => by simp at z
    have hgd : ∀ v, go.data ≠ .cell v := fun v q => by rw [hgd0] at q; cases q
    have young : ∀ b, s1.heap.objs.size ≤ b → H b = none ∧ b ≠ s.heap.objs.size ∧ b ∉ frs outer := fun b hb => ⟨I1.hok.fresh hb, Nat.ne_of_gt (Nat.lt_of_lt_of_le lt1 hb), I1.nofs hb⟩
    have IG : Inv (gcxOf P w K mg base N qual scope f cdv Aw outer s H E [(s1.heap.objs.size, go)]) [] (start N vs) H { s1 with gens := s1.gens.push (.fresh (.func body (envOfC qual scope s.heap.objs.size f cdv))), toks := tk2, heap := s1.heap.push go } := by
      refine Inv.pinnedG I2 fun p hp => ?_
      rw [List.append_nil] at hp
      rw [List.mem_singleton.mp hp]
      obtain ⟨y1, y2, y3⟩ := young s1.heap.objs.size (Nat.le_refl _)
      exact ⟨hpushed, y1, y2, y3, hgd⟩
    refine ⟨N, qual, scope, f, cdv, go, start N vs, hgen, IG, ?_, fun C s2 θ pk hG hI => ?_⟩
    · show _ < (s1.heap.push go).objs.size
      rw [Heap.size_push]
      exact Nat.lt_succ_of_lt lt1
    have pinned : ∀ {θ : Shared} {pins : List (Addr × Obj)} {s' : Shared} {σ' : L2.St} {H' : Hp}, Inv (famG P w K mg base N qual scope f cdv Aw outer s H E [(s1.heap.objs.size, go)] θ) pins σ' H' s' → s'.heap.IsGen s1.heap.objs.size s1.gens.size := fun {θ pins s' σ' H'} J =>
      hgen _ (J.pin (s1.heap.objs.size, go) (List.mem_append_left _ (List.mem_singleton.mpr rfl))).1
    refine seg_func ?_
    refine seg_imp (R := fun n s₀ r s1' => match r with
        | .ok (.ret u) => ∃ ys v ip σ H1 θ pk, n + ys.length = sizeLine ∧ C.Gd s₀ θ pk ys ∧ Inv (famG P w K mg base N qual scope f cdv Aw outer s H E [(s1.heap.objs.size, go)] θ) (pk ++ ip) σ H1 s1' ∧ RelV v u ∧ v = .non ∧ Qd ys H1
        | .ok _ => False
        | .error e => ∃ θ pk ys, C.Gd s₀ θ pk ys ∧ CX P w outer H θ E e s1' ∧ ∀ p ∈ [(s1.heap.objs.size, go)], s1'.heap.get? p.1 = some p.2)
      (Y := GYy (gcxOf P w K mg base N qual scope f cdv Aw outer s H E [(s1.heap.objs.size, go)]) (xfG P w qual scope f cdv Aw outer s H E [(s1.heap.objs.size, go)]) C Yd) (fun n s₀ r s1' hR => ?_) (fun n s₀ v s1' kap kap' hkk hY => ?_) sizeLine ?_
    · cases r with
      | error e =>
        obtain ⟨θ', pk', ys', g', q1, q2⟩ := hR
        exact .inr ⟨e, rfl, ⟨θ', pk', ys', g', q1⟩, hgen _ (q2 (s1.heap.objs.size, go) (List.mem_singleton.mpr rfl))⟩
      | ok fl =>
        cases fl with
        | next => exact False.elim hR
        | brk => exact False.elim hR
        | cont => exact False.elim hR
        | ret u =>
          obtain ⟨ys, v, ip, σ', H', θ', pk', hn, g', J, rv, ev, hQ⟩ := hR
          subst ev
          have eu : u = Value.none := rv
          subst eu
          exact .inl ⟨.inl rfl, ys, ip, σ', H', θ', pk', hn, g', J, hQ⟩
    · obtain ⟨ys, xx, ip, σ', H', θ', pk', hn, h2, g', hip, J, hy, h3⟩ := hY
      exact ⟨ys, xx, ip, σ', H', θ', pk', hn, h2, g', hip, J, hy, fun s' θ'' pk'' g'' J' => hkk _ _ (h3 s' θ'' pk'' g'' J')⟩
    · refine ht.run C Aw [] _ sizeLine [] s2 _ [] _ _ id id s2 (start N vs) H { nx := fun ys _ H' => Qd ys H', rt := fun ys v H' => v = .non ∧ Qd ys H', yd := Yd } θ pk ⟨fun p hp => (by simp at hp), over_func, rfl, rfl, rfl⟩ hG (Nat.add_zero _) ⟨fun n ys s₀ s' fl hn hs => ?_, fun n s₀ θ' pk' ys' e s' g' hx => ?_⟩ (by rw [List.append_nil]; exact hI) hq
      · obtain ⟨θ', pk', g', hs⟩ := hs
        cases fl with
        | next =>
          obtain ⟨σ', H', hI, hQ⟩ := hs
          exact seg_end (.ok (.ret .none)) ⟨ys, .non, [], σ', H', θ', pk', hn, g', hI, rfl, rfl, hQ⟩
        | brk => obtain ⟨_, _, _, q⟩ := hs; exact False.elim q
        | cont => obtain ⟨_, _, _, q⟩ := hs; exact False.elim q
        | ret u =>
          obtain ⟨v, σ', H', hI, rv, ev, hQ⟩ := hs
          exact seg_end (.ok (.ret u)) ⟨ys, v, [], σ', H', θ', pk', hn, g', hI, rv, ev, hQ⟩
      · refine seg_wrap ?_
        rw [over_func]
        refine wpAny_mono (show wpAny (model P w) (Aw.deeper (envOfC qual scope s.heap.objs.size f cdv)) (leaving (envOfC qual scope s.heap.objs.size f cdv) e) (fun _ s'' => CX P w outer H θ' E e s'' ∧ ∀ p ∈ [(s1.heap.objs.size, go)], s''.heap.get? p.1 = some p.2) (fun _ _ => False) s' from hx) (fun _ s'' q => ?_) fun _ s'' q => q.elim
        exact seg_end (.error e) ⟨θ', pk', ys', g', q⟩
  exact main _ _ _ _ rfl rfl rfl fun h => Heap.get?_push_size _ rfl
end Ru

set_option maxHeartbeats 1000000
/-! RuY: generators turn by turn: the wake, the calls -/
namespace Ru
open PySem PySem.Spec PyProof.Rows GenW L2
section
variable {P : Program} {w : World} {A : Around} {E : Value → Shared → Prop} {s : Shared}
theorem next_genY {a : Addr} {g n : Nat} {gs : GenState} {F : Nat → Shared → Shared → Prop} {Er : Shared → Value → Shared → Prop} {Y : Protocol} {Q : Option Value → Shared → Prop} (hh : A.handled = none)
    (hl : s.heap.NoLimit) (hroom : A.depth < recursionLimit) (hg : s.heap.IsGen a g) (hgs : s.gens[g]? = some gs)
    (hgo : gs.Goes (model P w) A.in1 (fun n s₀ r s₁ => ((r = .ok (.ret .none) ∨ r = .ok .next) ∧ F n s₀ s₁) ∨ ∃ e, r = .error e ∧ Er s₀ e s₁) Y n (.send .none) (s.setGen g .running))
    (hY : ∀ v s₁ gs', gs'.bare = true → Y (n - 1) (s.setGen g .running) v s₁ (fun r' s'' => match n with
        | 0 => False
        | m + 1 => gs'.Goes (model P w) A.in1 (fun n s₀ r s₁ => ((r = .ok (.ret .none) ∨ r = .ok .next) ∧ F n s₀ s₁) ∨ ∃ e, r = .error e ∧ Er s₀ e s₁) Y m r' s'') → Q (some v) (s₁.setGen g gs'))
    (hP : ∀ s₁, F n (s.setGen g .running) s₁ → ∀ h', (∀ b o, s₁.heap.get? b = some o → h'.get? b = some o) → Q none { s₁.setGen g .finished with heap := h' })
    (hE : ∀ e s₁, Er (s.setGen g .running) e s₁ → s₁.heap.IsGen a g ∧ NotStop (model P w) e s₁.heap ∧ E e (s₁.setGen g .finished)) :
    wpAny (model P w) A (pyNext (.ref a)) Q E s := by
  unfold pyNext
  refine wpAny_bind (wpAny_attempt (wpAny_callSpecial?_slot (name := Str.ofString "__next__") hg.typeIs slot_gen_next
    (wpAny_call_entry slot_gen_next hg.typeIs entry_gen_next ?_ (args_gen_next _))))
  show wpAny _ A.in1 (Builtin.Generator.genWake (.ref a) (.send .none)) _ _ s
  unfold Builtin.Generator.genWake
  refine wpAny_bind (wpAny_holding (wpAny_genNumber hg (wpAny_bind (wpAny_genState hgs ?_))))
  cases gs with
  | running => exact hgo.elim
  | finished => exact hgo.elim
  | _ =>
    refine wpAny_bind (wpAny_roomToWake hl hroom ?_)
    show wpAny _ A.in1 (.resume g (.send .none) [] _) _ _ s
    refine wpAny_resumeQ hgs hgo (fun x s₁ hx => ?_) (fun v s₁ gs' hb hv => ?_)
    · rcases hx with ⟨hr, hp⟩ | ⟨e, rfl, he⟩
      · have hres : End.result (.ret x) = .returned .none := by
          rcases hr with hr | hr <;> rw [hr] <;> rfl
        first | rw [hres] | simp only [hres]
        show wpAny _ A.in1 (newExc (.type "StopIteration") [] >>= _) _ _ _
        refine wpAny_bind ?_
        simp only [newExc, newTuple]
        refine wpAny_bind (wpAny_newObj_type ?_ (by size_fits))
        refine wpAny_bind (m := firstArgMember _ _) (wpAny_of_eq (a := Value.none) (by first | rfl | (simp only [firstArgMember]; rfl)) ?_)
        refine wpAny_newObj_type ?_ (by size_fits)
        simp only [raiseNew]
        refine wpAny_bind (wpAny_bind (wpAny_handled ?_))
        first | rw [show A.in1.handled = none from hh] | rw [hh]
        refine wpAny_throw ?_
        refine wpAny_bind (wpAny_isInstance (T := "StopIteration") (b := true) ⟨_, Heap.get?_push_size _ rfl, rfl⟩ isSubtype_stop ?_)
        exact wpAny_pure (hP s₁ hp _ fun b o hb => Heap.get?_push_of_some _ (Heap.get?_push_of_some _ hb))
      · obtain ⟨hg1, hns, hq⟩ := hE e s₁ he
        obtain ⟨o, nm, qn, ho, hc, hd, hsl⟩ := hg1
        show wpAny _ A.in1 (Builtin.Generator.genLeft (.ref a) e) _ _ _
        unfold Builtin.Generator.genLeft Builtin.Generator.madeByALambda
        refine wpAny_bind (wpAny_bind (wpAny_load (o := o) ho (wpAny_pure ?_)))
        refine wpAny_bind (hns _ _ _ _ rfl ?_)
        rw [Bool.and_false, if_neg Bool.false_ne_true]
        unfold Builtin.Generator.genEscaped
        first
          | refine wpAny_bind (hns _ _ _ _ rfl ?_)
          | refine wpAny_bind (wpAny_pure (wpAny_bind (hns _ _ _ _ rfl ?_)))
        rw [if_pos (show (!false) = true from rfl)]
        first
          | refine wpAny_throw ?_
          | refine wpAny_bind (wpAny_throw ?_)
        refine wpAny_bind (hns _ _ _ _ rfl ?_)
        rw [if_neg Bool.false_ne_true]
        exact wpAny_throw hq
    · exact wpAny_pure ⟨v, rfl, wpAny_pure (hY v s₁ gs' hb hv)⟩
end
/-- an expression whose value is a generator that has not begun: what it wants of each item, of its end -/
abbrev TGenY := L2.St → Hp → ((List V → Hp → Prop) → (List V → Hp → Prop) → Hp → Prop) → Prop
structure PGenY (X : Cx) (k : Nat) (e : Expr) (tg : TGenY) (E : XK) : Prop where
  run : ∀ (pins : List (Addr × Obj)) (s : Shared) (σ : L2.St) (H : Hp) (R : (List V → Hp → Prop) → (List V → Hp → Prop) → Hp → Prop), Inv X pins σ H s → tg σ H R → wpAny (model X.prog X.w) X.A (eval e X.env)
    (fun u s' => ∃ H1 sc Yd Qd, Inv X pins σ H1 sc ∧ GMadeY X.prog X.w X.K X.mg X.base k X.stack H1 sc Yd Qd E u s' ∧ R Yd Qd H1) X.xe s
section
variable {X : Cx} {k : Nat} {f C : Addr} {fd : FuncData} {ps : List Str} {sp : SpY} {dvs : List V} {ds : List Value} {x m : Str} {p pos pos' apos : Pos} {o : Expr} {ta : TE}
theorem run_gfnY {pins : List (Addr × Obj)} {σ : L2.St} {H : Hp} {s : Shared} {us : List Value} {vs : List V} {Yd Qd : List V → Hp → Prop} {E : XK} {E1 : Value → Shared → Prop} {R : (List V → Hp → Prop) → (List V → Hp → Prop) → Hp → Prop} (F : GFnY X.prog X.w X.K X.mg X.base k f fd ps sp) (hr : Room k X.A) (hb : Binds X.K fd ps ds) (hd : Vals dvs ds)
    (I : Inv X pins σ H s) (r : Vals vs us) (h : sp (vs ++ dvs) H Yd Qd E) (hR : R Yd Qd H) :
    wpAny (model X.prog X.w) X.A (call (.ref f) us) (fun u s' => ∃ H1 sc Yd Qd, Inv X pins σ H1 sc ∧ GMadeY X.prog X.w X.K X.mg X.base k X.stack H1 sc Yd Qd E u s' ∧ R Yd Qd H1) E1 s := by
  have r2 : Vals (vs ++ dvs) (us ++ ds) := r.append hd
  have hl2 : (us ++ ds).length = ps.length := by rw [← r2.length]; exact F.len _ _ _ _ _ h
  refine wpAny_call (codeAny_mono (F.run X.A X.stack s H ⟨us, []⟩ (us ++ ds) (vs ++ dvs) Yd Qd E hr I.env0 (hb s us I.kIn hl2) r2 h) fun r s' hq => ?_)
  cases r with
  | error e => exact False.elim hq
  | ok fl =>
    cases fl with
    | ret u => exact ⟨H, s, Yd, Qd, I, hq, hR⟩
    | next => exact False.elim hq
    | brk => exact False.elim hq
    | cont => exact False.elim hq
def tMethY (C : Addr) (m : Str) (sp : SpY) (dvs : List V) (E : XK) (ta : TE) (t : TA) : TGenY := fun σ H R => ta σ H fun x H1 => ∃ a dx fs, x = .ref a ∧ H1 a = some (.ins C dx fs) ∧ fs.lookup m = none ∧
  t σ H1 fun vs H2 => ∃ Yd Qd, sp (x :: (vs ++ dvs)) H2 Yd Qd E ∧ R Yd Qd H2
/-- o.m(e, ..) of a generator method -/
theorem pgen_methY {E : XK} {pl : Sem Bool} {e : Expr} {es : List Expr} {t : TA} (he : PE X o ta) (c : Cls X.K C) (hm : Meth X.K C m f) (F : GFnY X.prog X.w X.K X.mg X.base k f fd ps sp) (hr : Room k X.A) (hb : Binds X.K fd ps ds) (hd : Vals dvs ds) (ha : PA X (e :: es) t)
    (hst : starEach (e :: es) X.env = (false, eval e X.env) :: starEach es X.env := by rfl) (hpl : (backTo pos' (starEach es X.env)).any (·.1) = false := by rfl)
    (ht : eval (.Call (.Attribute o m apos) (e :: es) [] pos') X.env = (do
      let ov ← eval o X.env
      standAt apos.atName
      let (f, first) ← holding [ov] (getMethod ov m pl)
      callWith pos' f first (backTo pos' (starEach (e :: es) X.env)) (backToKw pos' (keywordEach [] X.env))) := by rfl) :
    PGenY X k (.Call (.Attribute o m apos) (e :: es) [] pos') (tMethY C m sp dvs E ta t) E := by
  refine ⟨fun pins s σ H R I h => ?_⟩
  refine PySem.W.methodCall_KW (pl := pl) (thn (he.run pins s σ H _ I h) fun u s1 ⟨x, H1, I1, rx, a, dx, fs, ex, ea, l, q⟩ => ?_) ht
  subst ex
  obtain rfl : u = Value.ref a := rx
  refine getmeth_ok I1 ea c hm l ?_
  refine PySem.W.callWith_K (first := [.ref a]) (h₀ := X.base) I.ok.mod.kin hm.kp (thn (ha.run pos' pins s1 σ H1 _ I1 q) fun us s2 ⟨vs, H2, I2, r, Yd, Qd, q2, q3⟩ => ⟨I2.kIn, ?_⟩) hst hpl
  exact run_gfnY (us := .ref a :: us) (vs := .ref a :: vs) F hr hb hd I2 (.cons rfl r) q2 q3
def tCallY (sp : SpY) (dvs : List V) (E : XK) (t : TA) : TGenY := fun σ H R => t σ H fun vs H1 => ∃ Yd Qd, sp (vs ++ dvs) H1 Yd Qd E ∧ R Yd Qd H1
/-- f(e, ..) of a generator def -/
theorem pgen_callY {E : XK} {e : Expr} {es : List Expr} {t : TA} (F : GFnY X.prog X.w X.K X.mg X.base k f fd ps sp) (hr : Room k X.A) (hg : Gl X x) (hm : X.mg x = some (.ref f)) (hk : PySem.W.keepIn X.K (.ref f) = true) (hb : Binds X.K fd ps ds) (hd : Vals dvs ds)
    (ha : PA X (e :: es) t) (hdb : (x == ("__debug__" : Str)) = false := by decide) (he : starEach (e :: es) X.env = (false, eval e X.env) :: starEach es X.env := by rfl) (hpl : (backTo pos' (starEach es X.env)).any (·.1) = false := by rfl) :
    PGenY X k (.Call (.Name x p) (e :: es) [] pos') (tCallY sp dvs E t) E := by
  refine ⟨fun pins s σ H R I h => ?_⟩
  refine wpAny_Call_Name_kw (ld_glob I hg hm ?_ hdb)
  refine PySem.W.callWith_K (h₀ := X.base) I.ok.mod.kin hk (thn (ha.run pos' pins s σ H _ I h) fun us s1 ⟨vs, H1, I1, r, Yd, Qd, q2, q3⟩ => ⟨I1.kIn, ?_⟩) he hpl
  exact run_gfnY F hr hb hd I1 r q2 q3
end
end Ru

set_option maxHeartbeats 1000000
/-! RuZ: a comprehension over a generator, turn by turn -/
namespace Ru
open PySem PySem.Spec PyProof.Rows GenW L2
/-- the element of such a comprehension: it reads the target alone -/
structure EltY (elt : Expr) (x : Str) (rd : V → Hp → V → Prop) : Prop where
  run : ∀ (P : Program) (w : World) (A : Around) (E : Value → Shared → Prop) (env : Env) (s : Shared) (H : Hp) (v : V) (u : Value) (z : V) (m : Str → Option Value) (Q : Value → Shared → Prop), env.scope.kind = .function → env.kindOf x = some .local → s.heap.Ns env.locals m → m x = some u → RelV v u →
    HOk P w H s.heap → rd v H z → (∀ t y, RelV z y → Q y { s with toks := t }) → wpAny (model P w) A (eval elt env) Q E s
theorem eltY_name {x : Str} {pos : Pos} (hd : (x == ("__debug__" : Str)) = false := by decide) : EltY (.Name x pos) x (fun v _ z => z = v) :=
  ⟨fun P w A E env s H v u z m Q hk hx hn hm r hok e h => by
    subst e
    exact wpAny_Name (wpAny_loadName_local hk hx hn hm (h s.toks u r)) hd⟩
theorem eltY_ix {x : Str} {i : Int} {pos p1 p2 : Pos} {j} (hd : (x == ("__debug__" : Str)) = false := by decide) (hs : PlainIx (.Constant (.int i) j p2)) :
    EltY (.Subscript (.Name x p1) (.Constant (.int i) j p2) pos) x (fun v H z => ∃ a xs, v = .ref a ∧ H a = some (.tup xs) ∧ atI xs i = some z) :=
  ⟨fun P w A E env s H v u z m Q hk hx hn hm r hok e h => by
    obtain ⟨a, xs, rfl, ha, he⟩ := e
    obtain rfl : u = Value.ref a := r
    refine Subscript_ (wpAny_Name (wpAny_loadName_local hk hx hn hm ?_) hd)
    refine wpAny_Constant_int ?_
    obtain ⟨hz, its, rv, pl⟩ := hok a _ ha
    obtain ⟨k, h1, h2, h3, h4, h5⟩ := atI_get he
    obtain ⟨y, ey, ry⟩ := rv.get h2
    have hl := rv.length
    have hnn := line63
    exact subscriptTail_builtinR (s := { s with toks := s.toks + 1 }) (x := y) (IsTup.typeIs (s := { s with toks := s.toks + 1 }) pl) slot_tuple_getitem.lookup
      (getItem_tuple (s := { s with toks := s.toks + 1 }) (j := k) (Q := fun r s' => r = y ∧ Q r s') pl (by omega) (by omega) (by rw [List.size_toArray, ← hl]; exact h1) (by simpa using ey) ⟨rfl, h _ y ry⟩) (hs _ _)⟩
theorem Heap.IsGen.of_get {h h' : Heap} {a : Addr} {g : Nat} (x : h.IsGen a g) (k : ∀ o, h.get? a = some o → h'.get? a = some o) : h'.IsGen a g :=
  let ⟨o, nm, qn, ho, r⟩ := x; ⟨o, nm, qn, k _ ho, r⟩
/-- the consumer: the comprehension's list D, its frame C -/
def eatC (sc : Shared) (C D : Addr) (Lk : List V → List V → Prop) : Eat where
  Gd := fun s₀ θ pk ys => θ = sc ∧ ∃ oC zs acc cc, pk = [(C, oC), (D, lstObj acc cc)] ∧ s₀.heap.get? C = some oC ∧ s₀.heap.get? D = some (lstObj acc cc) ∧ Vals zs acc.toList ∧ Lk ys zs ∧ ys.length = zs.length
  Ks := [C, D]
  Z := sc.heap.objs.size
  ks := fun s₀ θ pk ys h => by obtain ⟨_, oC, zs, acc, cc, rfl, _⟩ := h; rfl
  sz := fun s₀ θ pk ys h => by rw [h.1]
/-- [elt for x in g] -/
def tLcY (tgn : TGenY) (rd : V → Hp → V → Prop) : TE := fun σ H Q => tgn σ H fun Yd Qd H1 => ∃ Lk : List V → List V → Prop, Lk [] [] ∧
  (∀ ys x zs H', ys.length = zs.length → Yd (ys ++ [x]) H' → Lk ys zs → ∃ z, rd x H' z ∧ Lk (ys ++ [x]) (zs ++ [z])) ∧
  ∀ ys zs H' D, ys.length = zs.length → Qd ys H' → Lk ys zs → H' D = none → Q (.ref D) (upd H' D (.lst zs))
section
variable {X : Cx}
theorem un_but {fs : List Addr} {H : Hp} {h h' : Heap} {ch : List Addr} (k : ∀ b o, b ∉ ch → h.get? b = some o → h'.get? b = some o) : Un fs ch H H h h' :=
  ⟨fun b o q _ _ hx => k b o hx q, fun b o q _ _ hx => ⟨o.slots, k b o hx q⟩, fun _ _ _ n _ => n, fun b o q hx => ⟨o, k b o hx q⟩, fun _ _ q => q, fun _ _ _ q => q, fun _ ps q => ⟨#[], by rw [q]; simp⟩⟩
theorem hok_but {P : Program} {w : World} {H : Hp} {h h' : Heap} {ch : List Addr} (ok : HOk P w H h) (hn : ∀ b ∈ ch, H b = none) (k : ∀ b o, b ∉ ch → h.get? b = some o → h'.get? b = some o) : HOk P w H h' := fun b u e => by
  have nit : ∀ b u, H b = some u → b ∉ ch := fun b u e z => by rw [hn b z] at e; cases e
  refine (ok b u e).stay (fun c v hc q => k c v ?_ q) (fun _ q => q) fun _ _ q => q
  rcases hc with z | z
  · rw [z]; exact nit b u e
  · exact nit c _ z
theorem lc_coreY {k : Nat} {pins : List (Addr × Obj)} {s : Shared} {σ : L2.St} {H : Hp} {Q : VK} {elt iter : Expr} {y : Str} {py : Pos} {scope : Scope} {own : List (Str × Nat)} {pos pos' : Pos} {tgn : TGenY} {rd : V → Hp → V → Prop} {use : Option (Value → Sem Unit)} {Qf : Value → Shared → Prop}
    (hr : Room (k + 1) X.A) (I : Inv X pins σ H s) (hi : PGenY X k iter tgn E0) (ok : BlkOk X.N X.env.scope scope own) (hyl : scope.names.lookup y = some .local) (hel : EltY elt y rd)
    (hs : ∀ x, foldedSetIterable iter X.env x = pure x) (h : tLcY tgn rd σ H Q)
    (hRR : ∀ D C s' m H', Inv X pins σ H' s' → Q (.ref D) H' → s'.heap.Ns C m → FpOk X pins H' C → compPost (model X.prog X.w) X.A X.xe use Qf (.ref D) C (.ok .next) s') :
    wpAny (model X.prog X.w) X.A (comprehension (.ListComp elt [⟨.Name y py, iter, [], 0⟩] scope pos) scope X.env pos' (newList []) false (eval iter X.env) use) Qf X.xe s := by
  have hfree : ∀ y ∈ scope.names, y.2 = .free → ∃ c, X.env.cells.lookup y.1 = some c := fun y hy e => by
    rcases ok.free y hy e with k | k
    · exact I.ok.has _ (.inl k)
    · exact I.ok.has _ (.inr k)
  refine wpAny_comprehension_free (use := use) rfl hs (closure_ok hfree) ok.kind (fun y hy e => by rw [ok.uniq y hy, e])
    (thn (hi.run pins s σ H _ I h) fun u s1 ⟨H1, sc, Yd, Qd, I1, G, Lk, pv0, pvs, pve⟩ => ?_)
  obtain ⟨a, g, c, rfl, ha1, ha2, hg, hgs, hos, hb, hl, hkp, wake⟩ := G
  refine wpAny_pyIter_gen hg ?_
  refine wpAny_newObj_type (newEnv_comp ?_) (by show 0 ≤ sizeLine; decide)
  obtain ⟨N, qual, scp, f, cd, go, σ0, hgo, IG, hsz, seg⟩ := wake X.A.in1 hr.in1 I1.ok.frames
  generalize hD : s1.heap.objs.size = D
  generalize hs3 : ({ s1 with heap := s1.heap.push { cls := .type "list", data := .seq ([] : List Value).toArray } } : Shared) = s3
  have h3 : s3.heap = s1.heap.push { cls := .type "list", data := .seq ([] : List Value).toArray } := by rw [← hs3]
  generalize hC : s3.heap.objs.size = C
  have hCD : C = D + 1 := by rw [← hC, h3, Heap.size_push, hD]
  generalize hs4 : ({ s3 with heap := pushCells (s3.heap.push { cls := .type "dict", data := .dict #[] }) scope.names } : Shared) = s4
  have h4 : s4.heap = pushCells (s3.heap.push { cls := .type "dict", data := .dict #[] }) scope.names := by rw [← hs4]
  have k3 : ∀ b o, s1.heap.get? b = some o → s3.heap.get? b = some o := fun b o e => by rw [h3]; exact Heap.get?_push_of_some _ e
  have k4 : ∀ b o, s3.heap.get? b = some o → s4.heap.get? b = some o := fun b o e => by rw [h4]; exact pushCells_keeps _ _ _ _ (Heap.get?_push_of_some _ e)
  have gens4 : s4.gens = s1.gens := by rw [← hs4, ← hs3]
  have os4 : s4.os = s1.os := by rw [← hs4, ← hs3]
  have nC : s4.heap.Ns C (fun _ => none) := by
    rw [← hC, h4]
    exact Heap.Ns.keeps (Heap.Ns.new ..) fun b o e => pushCells_keeps _ _ _ _ e
  have gD : s4.heap.get? D = some (lstObj #[] 0) := k4 _ _ (by rw [← hD, h3]; exact Heap.get?_push_size _ rfl)
  have ltD : ∀ b o, s1.heap.get? b = some o → b ≠ D := fun b o e => by rw [← hD]; exact Nat.ne_of_lt (Heap.lt_size e)
  have naC : (a : Nat) ≠ C := Nat.ne_of_lt (by rw [hCD, ← hD]; exact Nat.lt_succ_of_lt ha2)
  have naD : (a : Nat) ≠ D := Nat.ne_of_lt (by rw [← hD]; exact ha2)
  have nDC : (D : Nat) ≠ C := by rw [hCD]; exact Nat.ne_of_lt (Nat.lt_succ_self D)
  have ltC : ∀ b o, s1.heap.get? b = some o → b ≠ C := fun b o e => by
    rw [hCD, ← hD]; exact Nat.ne_of_lt (Nat.lt_succ_of_lt (Heap.lt_size e))
  have scD : sc.heap.objs.size ≤ D := by rw [← hD]; exact Nat.le_of_lt hsz
  have scC : sc.heap.objs.size ≤ C := by rw [hCD]; exact Nat.le_succ_of_le scD
  generalize hce : compEnvC scope (cellsFrom (C + 1) scope.names (cloFrom X.env.cells scope.names [])) C X.env = ce
  have cL : ce.locals = C := by subst hce; rfl
  have cK : ce.scope.kind = .function := by subst hce; exact ok.kind
  have cY : ce.kindOf y = some .local := by subst hce; exact lookup_relabel_local hyl
  have pE : (ce.scope.kind == .class || (ce.scope.kind == .module && ce.locals != ce.globals)) = false := by rw [cK]; rfl
  generalize hCE : eatC sc C D Lk = CE at *
  -- the sleeping generator, whatever the comprehension does
  have slept : ∀ {ip : List (Addr × Obj)} {σg : L2.St} {Hg : Hp} {sa sb : Shared} {pk : List (Addr × Obj)} {oC oD : Obj}, (∀ p ∈ ip, p.1 ∉ [C, D]) →
      Inv (famG X.prog X.w X.K X.mg X.base N qual scp f cd X.A.in1 X.stack sc H1 E0 [(a, go)] sc) ip σg Hg sa → sb.os = sa.os → AllBare sb.gens → (∀ b o, b ∉ [C, D] → sa.heap.get? b = some o → sb.heap.get? b = some o) →
      Hg C = none → Hg D = none → sb.heap.get? C = some oC → sb.heap.get? D = some oD → (∀ v, oC.data ≠ .cell v) → (∀ v, oD.data ≠ .cell v) →
      (∀ x c, (envOfC qual scp sc.heap.objs.size f cd).cells.lookup x = some c → c ≠ C ∧ c ≠ D) → C ∉ frs X.stack → D ∉ frs X.stack →
      Inv (famG X.prog X.w X.K X.mg X.base N qual scp f cd X.A.in1 X.stack sc H1 E0 [(a, go)] sc) ([(C, oC), (D, oD)] ++ ip) σg Hg sb := by
    intro ip σg Hg sa sb pk oC oD hip J hos hb hk n1 n2 g1 g2 d1 d2 hcl f1 f2
    have hch : ∀ b ∈ [C, D], (b ∈ (famG X.prog X.w X.K X.mg X.base N qual scp f cd X.A.in1 X.stack sc H1 E0 [(a, go)] sc).ex ∨ sc.heap.objs.size ≤ b) ∧ b ≠ sc.heap.objs.size ∧ (∀ x c, (envOfC qual scp sc.heap.objs.size f cd).cells.lookup x = some c → c ≠ b) ∧ ∀ p ∈ [(a, go)] ++ ip, p.1 ≠ b := by
      intro b hb
      have hb' : b = C ∨ b = D := by simpa using hb
      refine ⟨.inr (by rcases hb' with e | e <;> rw [e] <;> assumption), ?_, fun x c e => by rcases hb' with z | z <;> rw [z]; exact (hcl x c e).1; exact (hcl x c e).2, fun p hp z => ?_⟩
      · rcases hb' with e | e <;> rw [e]
        · rw [hCD]; omega
        · rw [← hD]; omega
      · rcases List.mem_append.mp hp with hp | hp
        · rw [List.mem_singleton.mp hp] at z
          have z : a = b := z
          rcases hb' with e | e <;> rw [e] at z
          · rw [hCD, ← hD] at z; exact absurd z (Nat.ne_of_lt (Nat.lt_succ_of_lt ha2))
          · rw [← hD] at z; exact absurd z (Nat.ne_of_lt ha2)
        · exact hip p hp (z ▸ hb)
    have J2 := J.call' (H' := Hg) (ch := [C, D]) hos (un_but hk) (hok_but J.hok (fun b hb => by
      have hb' : b = C ∨ b = D := by simpa using hb
      rcases hb' with e | e <;> rw [e] <;> assumption) hk) hb hch
    refine J2.pins_of fun p hp => ?_
    have nl : C ≠ sc.heap.objs.size ∧ D ≠ sc.heap.objs.size := ⟨by rw [hCD]; omega, by rw [← hD]; omega⟩
    rcases List.mem_append.mp hp with hp | hp
    · have hp' : p = (C, oC) ∨ p = (D, oD) := by simpa using hp
      rcases hp' with e | e <;> subst e
      · exact ⟨g1, n1, nl.1, f1, d1⟩
      · exact ⟨g2, n2, nl.2, f2, d2⟩
    · exact J2.pin p (List.mem_append_right _ hp)
  have cne : ∀ x c, (envOfC qual scp sc.heap.objs.size f cd).cells.lookup x = some c → c ≠ C ∧ c ≠ D := fun x c e => by
    obtain ⟨v, o, ho, hd⟩ := IG.cell x c e
    exact ⟨ltC _ _ ho, ltD _ _ ho⟩
  have nfD : D ∉ frs X.stack := IG.nofs (Nat.le_of_eq hD)
  have nfC : C ∉ frs X.stack := IG.nofs (by rw [hCD, hD]; omega)
  -- the loop
  let J : Nat → Shared → Prop := fun n s => ∃ (zs : List V) (gs : GenState) (m : Str → Option Value) (acc : Array Value) (cc : Nat), s.heap.IsGen a g ∧ s.heap.NoLimit ∧ s.gens[g]? = some gs ∧
    gs.Goes (model X.prog X.w) X.A.in1 (REndY (gcxOf X.prog X.w X.K X.mg X.base N qual scp f cd X.A.in1 X.stack sc H1 E0 [(a, go)]) (xfG X.prog X.w qual scp f cd X.A.in1 X.stack sc H1 E0 [(a, go)]) X.prog X.w X.stack H1 a g CE Qd E0)
      (GYy (gcxOf X.prog X.w X.K X.mg X.base N qual scp f cd X.A.in1 X.stack sc H1 E0 [(a, go)]) (xfG X.prog X.w qual scp f cd X.A.in1 X.stack sc H1 E0 [(a, go)]) CE Yd) n (.send .none) (s.setGen g .running) ∧
    s.heap.get? D = some (lstObj acc cc) ∧ Vals zs acc.toList ∧ s.heap.Ns C m ∧ n + zs.length = sizeLine
  have loop : codeAny (model X.prog X.w) X.A (.compLoop (.ListComp elt [⟨.Name y py, iter, [], 0⟩] scope pos) 0 (.ref a) (.ref D) ce) (compPost (model X.prog X.w) X.A X.xe use Qf (.ref D) C) s4 := by
    refine compLoop_any J ?_ sizeLine ?_
    · rintro n s5 ⟨zs, gs, m, acc, cc, hg5, hl5, hgs5, hgo5, hD5, hv5, hC5, hn5⟩
      have hgl : g < s5.gens.size := (Array.getElem?_eq_some_iff.mp hgs5).1
      have gd5 : ∃ oC, s5.heap.get? C = some oC := by obtain ⟨o, _, _, e, _⟩ := hC5; exact ⟨o, e⟩
      refine wpAny_gsz (n := g + 1) hgl (next_genY (n := n) (A := X.A) (F := fun n s₀ s1 => ∃ ys ip σ H1' θ pk, n + ys.length = sizeLine ∧ CE.Gd s₀ θ pk ys ∧ Inv (fam (gcxOf X.prog X.w X.K X.mg X.base N qual scp f cd X.A.in1 X.stack sc H1 E0 [(a, go)]) (xfG X.prog X.w qual scp f cd X.A.in1 X.stack sc H1 E0 [(a, go)]) θ) (pk ++ ip) σ H1' s1 ∧ Qd ys H1')
        (Y := GYy (gcxOf X.prog X.w X.K X.mg X.base N qual scp f cd X.A.in1 X.stack sc H1 E0 [(a, go)]) (xfG X.prog X.w qual scp f cd X.A.in1 X.stack sc H1 E0 [(a, go)]) CE Yd)
        (Er := fun s₀ e s1 => (∃ θ pk ys, CE.Gd s₀ θ pk ys ∧ CX X.prog X.w X.stack H1 θ E0 e s1) ∧ s1.heap.IsGen a g) hr.hd hl5 (by have := hr.dp; omega) hg5 hgs5 ?_ (fun v s₁ gs' hbare hv => ?_) (fun s₁ hp h' hk => ?_) fun e s₁ he => ?_)
      · exact hgo5
      · intro hsz1
        obtain ⟨ys, x, ip, σg, Hg, θ, pk, hn, rv, hgd, hip, JY, hYd, hkap⟩ := hv
        subst hCE
        obtain ⟨rfl, oC, zs', acc', cc', rfl, gC, gD', hv', hlk, hll⟩ := hgd
        have gD' : s5.heap.get? D = some (lstObj acc' cc') := gD'
        rw [hD5] at gD'; cases gD'
        obtain rfl : zs = zs' := Vals.inj hv5 hv'
        have gC : s5.heap.get? C = some oC := gC
        have pC := JY.pin (C, oC) (List.mem_append_right _ (by simp))
        have pD := JY.pin (D, lstObj acc cc) (List.mem_append_right _ (by simp))
        have JY2 := JY.pins_of (pins' := ip) fun p hp => JY.pin p (List.mem_append_right _ (List.mem_append_right _ hp))
        have hCm : s₁.heap.Ns C m := hC5.at fun o e => by rw [gC] at e; cases e; exact pC.1
        have hgI : s₁.heap.IsGen a g := hgo _ (JY.pin (a, go) (List.mem_append_left _ (List.mem_singleton.mpr rfl))).1
        refine wpAny_pure ?_
        refine wpAny_assign_Name (wpAny_storeName_local cY (by rw [cL]; exact hCm) (fun h1 hn1 hs1 => ?_) pE)
        rw [cL] at hs1
        refine wpAny_tests_nil ?_
        rw [if_pos rfl]
        have hlen : ys.length = zs.length := by omega
        obtain ⟨z, hz, hpz⟩ := pvs ys x zs Hg hlen hYd hlk
        have ok1 : HOk X.prog X.w Hg h1 := hok_but (ch := [C]) JY.hok (fun b hb => by rw [List.mem_singleton.mp hb]; exact pC.2.1) fun b o hb e => (hs1.2 b (fun q => hb (by rw [q]; simp))).trans e
        refine hel.run X.prog X.w X.A _ ce _ Hg x v z _ _ cK cY hn1 (by simp) rv ok1 hz fun t yv ry => ?_
        have hCD' : D ≠ C := by rw [hCD]; omega
        have hD1 : h1.get? D = some (lstObj acc cc) := (hs1.2 D hCD').trans pD.1
        have hacc : acc.size = zs.length := by rw [hv5.length, Array.length_toList]
        refine append_at (hsz := by omega) hD1 fun h2 hs2 hD2 => ?_
        have kk : ∀ b o, b ∉ [C, D] → s₁.heap.get? b = some o → h2.get? b = some o := fun b o hb e => by
          have hb' : b ≠ C ∧ b ≠ D := ⟨fun q => hb (by rw [q]; simp), fun q => hb (by rw [q]; simp)⟩
          exact (hs2.2 b hb'.2).trans ((hs1.2 b hb'.1).trans e)
        have hC2 : h2.Ns C (fun x => if x = y then some v else m x) := by
          have := hn1
          rw [cL] at this
          exact this.sameBut hs2 (Ne.symm hCD')
        obtain ⟨oC2, es, ep, eC2, dC2, _⟩ := id hC2
        have bare1 : AllBare (s₁.setGen g gs').gens := allBare_setGen JY.bare hbare
        cases n with
        | zero =>
          exact (hkap { ({ s₁.setGen g gs' with heap := h2 } : Shared).setGen g .running with toks := t } θ [(C, oC2), (D, lstObj (acc.push yv) (cc + 1))] ⟨rfl, oC2, zs ++ [z], _, _, rfl, eC2, hD2, by rw [Array.toList_push]; exact hv5.append (.cons ry .nil), hpz, by rw [List.length_append, List.length_append, List.length_singleton, List.length_singleton, hlen]⟩
            (slept (pk := []) hip JY2 rfl (allBare_setGen bare1 rfl) kk pC.2.1 pD.2.1 eC2 hD2 (fun v q => by rw [dC2] at q; cases q) (fun v q => by cases q) cne nfC nfD)).elim
        | succ n =>
          refine ⟨n, Nat.lt_succ_self _, zs ++ [z], gs', _, acc.push yv, cc + 1, ?_, ?_, ?_, ?_, hD2, ?_, hC2, ?_⟩
          · exact Heap.IsGen.of_get hgI fun o e => kk a o (fun q => by
              have q' : a = C ∨ a = D := by simpa using q
              exact q'.elim naC naD) e
          · obtain ⟨mc, hns, hnn⟩ := JY.nolimit
            obtain ⟨mc0, hns0, _⟩ := hl
            have hlt := hns0.lt
            exact ⟨mc, hns.at fun o e => kk _ o (fun q => by
              have q' : cStatics = C ∨ cStatics = D := by simpa using q
              have l1 : cStatics < D := by rw [← hD]; exact hlt
              exact q'.elim (Nat.ne_of_lt (by rw [hCD]; exact Nat.lt_succ_of_lt l1)) (Nat.ne_of_lt l1)) e, hnn⟩
          · have hsz1' : g < s₁.gens.size := by
              have q : (s₁.setGen g gs').gens.size = s₁.gens.size := setGen_size _ _ _
              have hsz1 : g + 1 ≤ (s₁.setGen g gs').gens.size := hsz1
              omega
            exact setGen_at hsz1'
          · exact hkap { ({ s₁.setGen g gs' with heap := h2 } : Shared).setGen g .running with toks := _ } θ [(C, oC2), (D, lstObj (acc.push yv) (cc + 1))] ⟨rfl, oC2, zs ++ [z], _, _, rfl, eC2, hD2, by rw [Array.toList_push]; exact hv5.append (.cons ry .nil), hpz, by rw [List.length_append, List.length_append, List.length_singleton, List.length_singleton, hlen]⟩
              (slept (pk := []) hip JY2 rfl (allBare_setGen bare1 rfl) kk pC.2.1 pD.2.1 eC2 hD2 (fun v q => by rw [dC2] at q; cases q) (fun v q => by cases q) cne nfC nfD)
          · rw [Array.toList_push]
            exact hv5.append (.cons ry .nil)
          · rw [List.length_append, List.length_singleton]; omega
      · intro _
        obtain ⟨ys, ip, σg, Hg, θ, pk, hn, hgd, JE, hQd⟩ := hp
        subst hCE
        obtain ⟨rfl, oC, zs', acc', cc', rfl, gC, gD', hv', hlk, hll⟩ := hgd
        have gD' : s5.heap.get? D = some (lstObj acc' cc') := gD'
        rw [hD5] at gD'; cases gD'
        obtain rfl : zs = zs' := Vals.inj hv5 hv'
        have gC : s5.heap.get? C = some oC := gC
        have pC := JE.pin (C, oC) (List.mem_append_right _ (by simp))
        have pD := JE.pin (D, lstObj acc cc) (List.mem_append_right _ (by simp))
        have hCm : h'.Ns C m := hC5.at fun o e => by rw [gC] at e; cases e; exact hk _ _ pC.1
        have hlen : ys.length = zs.length := by omega
        have un : Un (frs X.stack) [] H1 Hg θ.heap h' := (show Un (frs X.stack) [] H1 Hg θ.heap s₁.heap from JE.base).trans (Un.kept hk)
        have bE : AllBare (s₁.setGen g .finished).gens := allBare_setGen JE.bare rfl
        have IE : Inv X pins σ (upd Hg D (.lst zs)) { s₁.setGen g .finished with heap := h' } := I1.drained scD (by omega) (hk _ _ pD.1) hv5 ExOk.nil JE.os bE un (JE.hok.kept hk) pD.2.1
        refine hRR D C _ m _ IE (pve ys zs Hg D hlen hQd hlk pD.2.1) hCm (I1.fpOk scC ?_)
        rw [upd_ne (Ne.symm nDC)]
        exact pC.2.1
      · obtain ⟨⟨θ, pk, _, _, hcx⟩, _⟩ := he
        obtain ⟨_, _, _, _, _, _, _, _, _, _, _, _, q⟩ := hcx
        exact False.elim q
    · refine ⟨[], .fresh c, _, #[], 0, hg.keeps fun b o e => k4 b o (k3 b o e), hl.keeps fun b o e => k4 b o (k3 b o e), by rw [gens4]; exact hgs, ⟨rfl, ?_⟩, gD, .nil, nC, by simp⟩
      obtain ⟨oC, es, ep, eC, dC, _⟩ := id nC
      subst hCE
      have hb4 : AllBare (s4.setGen g .running).gens := allBare_setGen (by rw [gens4]; exact hb) rfl
      have := slept (pk := []) (ip := []) (sb := s4.setGen g .running) (oC := oC) (oD := lstObj #[] 0) (fun p hp => by simp at hp) IG os4 hb4 (fun b o _ e => k4 b o (k3 b o e)) (IG.hok.fresh (by rw [hCD, hD]; omega)) (IG.hok.fresh (Nat.le_of_eq hD)) eC gD (fun v q => by rw [dC] at q; cases q) (fun v q => by cases q) cne nfC nfD
      rw [List.append_nil] at this
      exact seg _ _ sc [(C, oC), (D, lstObj #[] 0)] ⟨rfl, oC, [], _, _, rfl, eC, gD, .nil, pv0, rfl⟩ this
  have main := codeAny_compStart_list loop (wpAny_pyIter_gen (s := s4) (hg.keeps fun b o e => k4 b o (k3 b o e)) loop)
  subst hce
  exact main
/-- as a value -/
theorem pe_lcY {k : Nat} {elt iter : Expr} {y : Str} {py : Pos} {scope : Scope} {own : List (Str × Nat)} {pos : Pos} {tgn : TGenY} {rd : V → Hp → V → Prop} (hr : Room (k + 1) X.A) (hi : PGenY X k iter tgn E0) (ok : BlkOk X.N X.env.scope scope own) (hyl : scope.names.lookup y = some .local)
    (hel : EltY elt y rd) (hs : ∀ x, foldedSetIterable iter X.env x = pure x := by intro _; rfl) : PE X (.ListComp elt [⟨.Name y py, iter, [], 0⟩] scope pos) (tLcY tgn rd) := by
  refine ⟨fun pins s σ H Q I h => ?_⟩
  rw [eval_ListComp]
  refine lc_coreY hr I hi ok hyl hel hs h fun D C s' m H' I' q hn f => ⟨m, hn, fun h'' sb => ?_⟩
  obtain ⟨f0, f1, f2, f3, f4, f5⟩ := f
  exact ⟨.ref D, H', I'.turned (t' := s'.toks) (fun b o hb e => (sb.2 b hb).trans e) f0 f1 f3 f4 f5, rfl, q⟩
/-- name = [.. for .. in g] on one line, the name a local -/
theorem ps_setLcY {i k : Nat} {y0 : Str} {py0 : Pos} {elt iter : Expr} {y : Str} {py : Pos} {scope : Scope} {own : List (Str × Nat)} {pos spos : Pos} {tgn : TGenY} {rd : V → Hp → V → Prop} (hr : Room (k + 1) X.A) (hN : X.N.Nodup) (hy0 : X.N[i]? = some y0) (hyl0 : X.env.scope.names.lookup y0 = some .local)
    (hsw : swapsWith (.ListComp elt [⟨.Name y py, iter, [], 0⟩] scope pos) (some (.Name y0 py0)) spos.line X.env = pure true) (hi : PGenY X k iter tgn E0) (ok : BlkOk X.N X.env.scope scope own) (hyl : scope.names.lookup y = some .local)
    (hel : EltY elt y rd) (hs : ∀ x, foldedSetIterable iter X.env x = pure x := by intro _; rfl) :
    PS X (.Assign [.Name y0 py0] (.ListComp elt [⟨.Name y py, iter, [], 0⟩] scope pos) spos) (tAsg (tLcY tgn rd) (gName i)) := by
  refine ⟨fun pins s σ H D I h => ?_⟩
  rw [exec_Assign_Name_used _ _ _ _ hsw]
  refine wpAny_bind (wpAny_standAt (wpAny_bind ?_))
  show wpAny _ X.A (do let _ ← comprehension (.ListComp elt [⟨.Name y py, iter, [], 0⟩] scope pos) scope X.env (firstIterPos [⟨.Name y py, iter, [], 0⟩] pos) (newList []) false (eval iter X.env) (some (assign (.Name y0 py0) X.env))) _ _ s
  have h : tLcY tgn rd σ H (fun x H1 => gName i x σ H1 D.nx) := h
  refine wpAny_bind (thn (lc_coreY (Qf := fun _ s' => SP X pins D .next s') hr I hi ok hyl hel hs h fun L C s' m H' I' q hn f => ?_) fun _ s' hq => wpAny_pure (wpAny_pure hq))
  show wpAny _ _ (assign (.Name y0 py0) X.env (.ref L)) _ _ _
  refine wpAny_assign_Name (store_ok2 (v := V.ref L) I' hN hy0 (.inl hyl0) rfl (fun s2 I2 ⟨a, sb, ha⟩ => ?_) (.inr hyl0))
  obtain ⟨f0, f1, f2, f3, f4, f5⟩ := f
  have haC : C ≠ a := by
    rcases ha with z | z
    · rw [z]; exact f1
    · exact fun e => f4 y0 a z e.symm
  refine ⟨m, hn.sameBut sb haC, fun h3 sb3 => ?_⟩
  exact ⟨_, H', I2.turned (t' := s2.toks) (fun b o hb e => (sb3.2 b hb).trans e) f0 f1 f3 f4 f5, q⟩
end
end Ru

set_option maxHeartbeats 1000000
/-! RuAA: a loop over a generator, whose body is quiet: it changes its own frame's names, and nothing else -/
namespace Ru
open PySem PySem.Spec PyProof.Rows GenW L2
/-- quiet code: all objects but its own frame stay, and so does the table of generators -/
def Qt (X : Cx) (s s' : Shared) : Prop := s'.gens = s.gens ∧ ∀ b o, b ≠ X.env.locals → s.heap.get? b = some o → s'.heap.get? b = some o
theorem Qt.refl {X : Cx} {s : Shared} : Qt X s s := ⟨rfl, fun _ _ _ e => e⟩
theorem Qt.trans {X : Cx} {s s1 s2 : Shared} (a : Qt X s s1) (b : Qt X s1 s2) : Qt X s s2 := ⟨b.1.trans a.1, fun c o n e => b.2 c o n (a.2 c o n e)⟩
theorem Qt.tok {X : Cx} {s : Shared} (t : Nat) : Qt X s { s with toks := t } := ⟨rfl, fun _ _ _ e => e⟩
structure QE (X : Cx) (e : Expr) (t : TE) : Prop where
  run : ∀ (pins : List (Addr × Obj)) (s : Shared) (σ : L2.St) (H : Hp) (Q : VK), Inv X pins σ H s → t σ H Q → wpAny (model X.prog X.w) X.A (eval e X.env) (fun u s' => Qt X s s' ∧ EP X pins σ Q u s') X.xe s
structure QT (X : Cx) (e : Expr) (t : TT) : Prop where
  run : ∀ (whole : Sem Value) (pins : List (Addr × Obj)) (s : Shared) (σ : L2.St) (H : Hp) (Q : Bool → Hp → Prop), whole = eval e X.env → Inv X pins σ H s → t σ H Q → wpAny (model X.prog X.w) X.A (isTrue e X.env whole) (fun b s' => Qt X s s' ∧ TP X pins σ Q b s') X.xe s
structure QS (X : Cx) (st : Stmt) (t : TS) : Prop where
  run : ∀ (pins : List (Addr × Obj)) (s : Shared) (σ : L2.St) (H : Hp) (D : Ends), Inv X pins σ H s → t D σ H → wpAny (model X.prog X.w) X.A (exec st X.env) (fun f s' => Qt X s s' ∧ SP X pins D f s') X.xe s
structure QSs (X : Cx) (st : List Stmt) (t : TS) : Prop where
  run : ∀ (pins : List (Addr × Obj)) (s : Shared) (σ : L2.St) (H : Hp) (D : Ends), Inv X pins σ H s → t D σ H → wpAny (model X.prog X.w) X.A (execs st X.env) (fun f s' => Qt X s s' ∧ SP X pins D f s') X.xe s
structure QG (X : Cx) (target : Expr) (t : TG) : Prop where
  run : ∀ (pins : List (Addr × Obj)) (s : Shared) (σ : L2.St) (H : Hp) (v : V) (u : Value) (Q : L2.St → Hp → Prop), Inv X pins σ H s → RelV v u → t v σ H Q →
    wpAny (model X.prog X.w) X.A (assign target X.env u) (fun _ s' => Qt X s s' ∧ ∃ σ' H', Inv X pins σ' H' s' ∧ Q σ' H') X.xe s
section
variable {X : Cx} {e a b : Expr} {ta tb te : TE} {tA tB' : TT} {t u : TS} {st : Stmt} {rest : List Stmt} {pos : Pos}
theorem qe_var {i : Nat} {x : Str} (hN : X.N[i]? = some x) (hv : Vis X.env.scope x) (hd : (x == ("__debug__" : Str)) = false := by decide) (hcd : (x == ("__classdict__" : Str)) = false := by decide) : QE X (.Name x pos) (tVar i) := by
  refine ⟨fun pins s σ H Q I h => ?_⟩
  obtain ⟨v, e, h⟩ := h
  obtain ⟨m, hn, hl⟩ := I.loc
  obtain ⟨u, r, l⟩ := hl i x v hN e hv
  have fin : Qt X s s ∧ EP X pins σ Q u s := ⟨.refl, v, H, I, r, h⟩
  rcases l with ⟨hk, hm⟩ | ⟨hk, c, hc, hcell⟩
  · exact wpAny_Name (wpAny_loadName_local I.ok.kind hk hn hm fin) hd
  · rcases hk with hk | hk
    · exact wpAny_Name (wpAny_loadName_cell I.ok.kind hk hc hcell fin) hd
    · exact wpAny_Name (wpAny_loadName_free I.ok.kind hk hc hcell fin hcd) hd
theorem qe_int {i j} : QE X (.Constant (.int i) j pos) (tC (.int i)) := ⟨fun _ _ _ H _ I h => wpAny_Constant_int ⟨.tok _, .int i, H, I.tok _, ⟨_, rfl⟩, h⟩⟩
theorem qbin (ha : QE X a ta) (hb : QE X b tb) {pins : List (Addr × Obj)} {s : Shared} {σ : L2.St} {H : Hp} {R : V → V → Hp → Prop} (I : Inv X pins σ H s) (h : ta σ H fun x H1 => tb σ H1 fun y H2 => R x y H2)
    {α : Type} {Q : α → Shared → Prop} {f : Value → Value → Sem α}
    (hf : ∀ v u s2 x y H2, Qt X s s2 → Inv X pins σ H2 s2 → RelV x v → RelV y u → R x y H2 → wpAny (model X.prog X.w) X.A (f v u) Q X.xe s2) :
    wpAny (model X.prog X.w) X.A (eval a X.env) (fun v s₁ => wpAny (model X.prog X.w) X.A (eval b X.env) (fun u s₂ => wpAny (model X.prog X.w) X.A (f v u) Q X.xe s₂) X.xe s₁) X.xe s := by
  refine thn (ha.run pins s σ H _ I h) fun v s1 ⟨k1, x, H1, I1, r1, q1⟩ => ?_
  refine thn (hb.run pins s1 σ H1 _ I1 q1) fun u s2 ⟨k2, y, H2, I2, r2, q2⟩ => ?_
  exact hf v u s2 x y H2 (k1.trans k2) I2 r1 r2 q2
theorem qe_add (ha : QE X a ta) (hb : QE X b tb) : QE X (.BinOp a .Add b pos) (tAdd ta tb) := by
  refine ⟨fun pins s σ H Q I h => ?_⟩
  refine wpAny_BinOp (qbin ha hb I h fun v u s2 x y H2 k I2 rx ry q => ?_)
  obtain ⟨i, j, rfl, rfl, q⟩ := q
  obtain ⟨t, rfl⟩ := rx
  obtain ⟨t', rfl⟩ := ry
  exact add_int ⟨k.trans (.tok _), .int _, H2, I2.tok _, ⟨_, rfl⟩, q⟩
/-- a name whose value is a bool, as a test -/
theorem qt_val (h : QE X e te) (he : ∀ whole, isTrue e X.env whole = (do let v ← whole; standAt e.pos; holding [v] (truthy v)) := by intro _; rfl) : QT X e (tB te) := by
  refine ⟨fun whole pins s σ H Q hw I hh => ?_⟩
  subst hw
  refine isTrue_plain (thn (h.run pins s σ H _ I hh) fun v s1 ⟨k, x, H1, I1, r1, q1⟩ => ?_) (he _)
  obtain ⟨d, rfl, q⟩ := q1
  cases r1
  exact wpAny_truthy_bool ⟨k, H1, I1, q⟩
theorem qt_lt (ha : QE X a ta) (hb : QE X b tb) : QT X (.Compare a [.Lt] [b] pos) (tB (tLt ta tb)) := by
  refine ⟨fun whole pins s σ H Q hw I h => ?_⟩
  refine wpAny_isTrue_Compare1 (thn (ha.run pins s σ H _ I h) fun v s1 ⟨k1, x, H1, I1, r1, q1⟩ => thn (hb.run pins s1 σ H1 _ I1 q1) fun u s2 ⟨k2, y, H2, I2, r2, q2⟩ => ?_) (nobehind _ (by decide) (by decide))
  obtain ⟨i, j, rfl, rfl, c, e, q⟩ := q2
  obtain ⟨t, rfl⟩ := r1
  obtain ⟨t', rfl⟩ := r2
  injection e with e
  exact lt_int (wpAny_truthy_bool ⟨k1.trans k2, H2, I2, by rw [← e] at q; exact q⟩)
def tNeB (ta tb : TE) : TE := fun σ H Q => ta σ H fun x H1 => tb σ H1 fun y H2 => ∃ i j : Bool, x = .bl i ∧ y = .bl j ∧ Q (.bl (i != j)) H2
theorem qt_neB (ha : QE X a ta) (hb : QE X b tb) : QT X (.Compare a [.NotEq] [b] pos) (tB (tNeB ta tb)) := by
  refine ⟨fun whole pins s σ H Q hw I h => ?_⟩
  refine wpAny_isTrue_Compare1 (thn (ha.run pins s σ H _ I h) fun v s1 ⟨k1, x, H1, I1, r1, q1⟩ => thn (hb.run pins s1 σ H1 _ I1 q1) fun u s2 ⟨k2, y, H2, I2, r2, q2⟩ => ?_) (nobehind _ (by decide) (by decide))
  obtain ⟨i, j, rfl, rfl, c, e, q⟩ := q2
  cases r1
  cases r2
  injection e with e
  exact ne_bool (wpAny_truthy_bool ⟨k1.trans k2, H2, I2, by rw [e]; exact q⟩)
theorem qt_isN {j pos'} (ha : QE X a ta) : QT X (.Compare a [.Is] [.Constant .none j pos'] pos) (tB (tIsN ta)) := by
  refine ⟨fun whole pins s σ H Q hw I h => ?_⟩
  refine wpAny_isTrue_Compare1 (thn (ha.run pins s σ H _ I h) fun v s1 ⟨k1, x, H1, I1, r1, q1⟩ => ?_) (nobehind _ (by decide) (by decide))
  obtain ⟨c, e, q⟩ := q1
  injection e with e
  exact Constant_none (is_none_gen (wpAny_truthy_bool ⟨k1, H1, I1, by rw [r1.none_iff, e]; exact q⟩))
theorem qt_or2 (ha : QT X a tA) (hb : QT X b tB') : QT X (.BoolOp .Or [a, b] pos) (tOr tA tB') := by
  refine ⟨fun wh pins s σ H Q hw I h => ?_⟩
  refine isTrue_or (thn (ha.run _ pins s σ H _ rfl I h) fun c s1 ⟨k1, H1, I1, q1⟩ => ?_)
  cases c with
  | true => exact ⟨k1, H1, I1, q1⟩
  | false =>
    refine isTrue_or (thn (hb.run _ pins s1 σ H1 _ rfl I1 q1) fun c s2 ⟨k2, H2, I2, q2⟩ => ?_)
    cases c with
    | true => exact ⟨k1.trans k2, H2, I2, q2⟩
    | false => exact isTrue_or_nil ⟨k1.trans k2, H2, I2, q2⟩
theorem qss_nil : QSs X [] tNext := ⟨fun _ _ σ H _ I h => wpAny_execs_nil ⟨.refl, σ, H, I, h⟩⟩
theorem qss_cons (h1 : QS X st t) (h2 : QSs X rest u) : QSs X (st :: rest) (tSeq t u) := by
  refine ⟨fun pins s σ H D I h => ?_⟩
  refine wpAny_execs_cons (thn (h1.run pins s σ H { D with nx := u D } I h) fun f s1 ⟨k, q⟩ => ?_)
  cases f with
  | next =>
    obtain ⟨σ', H', I', q⟩ := q
    exact thn (h2.run pins s1 σ' H' D I' q) fun f s2 ⟨k2, q2⟩ => ⟨k.trans k2, q2⟩
  | ret v => exact ⟨k, q⟩
  | brk => exact ⟨k, q⟩
  | cont => exact ⟨k, q⟩
theorem qss_one (h1 : QS X st t) : QSs X [st] t := by
  refine ⟨fun pins s σ H D I h => ?_⟩
  refine wpAny_execs_cons (thn (h1.run pins s σ H D I h) fun f s1 q => ?_)
  cases f with
  | next => exact wpAny_execs_nil q
  | ret v => exact q
  | brk => exact q
  | cont => exact q
theorem qs_if {c : Expr} {sa sb : List Stmt} {tc : TT} (hc : QT X c tc) (ha : QSs X sa t) (hb : QSs X sb u) : QS X (.If c sa sb pos) (tIfS tc t u) := by
  refine ⟨fun pins s σ H D I h => ?_⟩
  refine wpAny_If (thn (hc.run _ pins s σ H _ rfl I h) fun d s1 ⟨k1, H1, I1, q1⟩ => ?_)
  cases d with
  | true => exact thn (ha.run pins s1 σ H1 D I1 q1) fun f s2 ⟨k2, q2⟩ => ⟨k1.trans k2, q2⟩
  | false => exact thn (hb.run pins s1 σ H1 D I1 q1) fun f s2 ⟨k2, q2⟩ => ⟨k1.trans k2, q2⟩
/-- a local name is stored -/
theorem qstore {pins : List (Addr × Obj)} {s : Shared} {σ : L2.St} {H : Hp} {M : Model} {A : Around} {E : Value → Shared → Prop} {i : Nat} {x : Str} {v : V} {uu : Value} {Q : Unit → Shared → Prop} (I : Inv X pins σ H s) (hN : X.N.Nodup) (hi : X.N[i]? = some x) (hk : X.env.scope.names.lookup x = some .local) (r : RelV v uu)
    (h : ∀ s', Qt X s s' → Inv X pins (σ.set i (some v)) H s' → Q () s') : wpAny M A (storeName X.env x uu) Q E s := by
  obtain ⟨m, hn, hl⟩ := id I.loc
  have hcls : (X.env.scope.kind == .class || (X.env.scope.kind == .module && X.env.locals != X.env.globals)) = false := by rw [I.ok.kind]; rfl
  have hiσ : i < σ.length := by rw [I.len]; exact (List.getElem?_eq_some_iff.mp hi).1
  have cne := I.cne
  have tracked : ∀ {a : Addr} {h' : Heap}, (∃ o, s.heap.get? a = some o ∧ H a = none) → Heap.SameBut a s.heap h' → HOk X.prog X.w H h' := fun {a h'} ha hs b ob e => by
    obtain ⟨_, _, hfree⟩ := ha
    refine (I.hok b ob e).stay (fun c w' hc q => (hs.2 c ?_).trans q) (fun _ q => q) fun _ _ q => q
    rintro rfl
    rcases hc with rfl | hc
    · rw [hfree] at e; cases e
    · rw [hfree] at hc; cases hc
  refine wpAny_storeName_local hk hn (fun h' hn' hs => ?_) hcls
  obtain ⟨oL, _, _, hoL, _⟩ := id hn
  refine h _ ⟨rfl, fun b o n e => (hs.2 b n).trans e⟩ ⟨I.ok, I.os, I.bare, ⟨fun b o e n hb hx => ?_, fun b o e n hb hx => ?_, I.base.free, fun b o e hx => ?_, I.base.tups, I.base.frzs, I.base.tbls⟩, ⟨_, hn', fun j y v' e1 e2 e3 => ?_⟩, fun y c e => ?_, I.free, I.freeC, fun p hp => ?_, tracked ⟨oL, hoL, I.free⟩ hs, by simpa using I.len⟩
  · exact (hs.2 b (Nat.ne_of_lt (Nat.lt_of_lt_of_le (Heap.lt_size e) I.ok.above))).trans (I.base.keep b o e n hb hx)
  · obtain ⟨sl, e1⟩ := I.base.slot b o e n hb hx
    exact ⟨sl, (hs.2 b (Nat.ne_of_lt (Nat.lt_of_lt_of_le (Heap.lt_size e) I.ok.above))).trans e1⟩
  · obtain ⟨o', e1⟩ := I.base.there b o e hx
    exact ⟨o', (hs.2 b (Nat.ne_of_lt (Nat.lt_of_lt_of_le (Heap.lt_size e) I.ok.above))).trans e1⟩
  · by_cases hj : j = i
    · subst hj
      rw [hi] at e1; cases e1
      rw [List.getElem?_set_self hiσ] at e2
      cases e2
      exact ⟨uu, r, .inl ⟨hk, by simp⟩⟩
    · rw [List.getElem?_set_ne (Ne.symm hj)] at e2
      obtain ⟨u', r', q⟩ := hl j y v' e1 e2 e3
      refine ⟨u', r', ?_⟩
      rcases q with ⟨k, e⟩ | ⟨k, c, e, z⟩
      · refine .inl ⟨k, ?_⟩
        have : y ≠ x := fun e => hj (nodup_ix hN e1 (e ▸ hi))
        simp [this, e]
      · exact .inr ⟨k, c, e, z.sameBut hs (cne y c e)⟩
  · obtain ⟨w', z⟩ := I.cell y c e
    exact ⟨w', z.sameBut hs (cne y c e)⟩
  · obtain ⟨e, n, ne, nf, d⟩ := I.pin p hp
    exact ⟨(hs.2 p.1 ne).trans e, n, ne, nf, d⟩
theorem qs_set {i : Nat} {x : Str} {pos' : Pos} (hN : X.N.Nodup) (hi : X.N[i]? = some x) (hk : X.env.scope.names.lookup x = some .local) (he : QE X e te) (hs : swapsWith e (some (.Name x pos')) pos.line X.env = pure false := by rfl) :
    QS X (.Assign [.Name x pos'] e pos) (tAsg te (gName i)) := by
  refine ⟨fun pins s σ H D I h => ?_⟩
  refine wpAny_Assign_Name (thn (he.run pins s σ H _ I h) fun v s1 ⟨k, y, H1, I1, r1, q1⟩ => ?_) hs
  exact qstore I1 hN hi hk r1 fun s2 k2 I2 => ⟨k.trans k2, _, H1, I2, q1⟩
/-- x, y = a pair -/
def gTwo (K : PySem.W.Frag) (i j : Nat) : TG := fun v σ H Q => ∃ p x y, v = .ref p ∧ SqT K H p [x, y] ∧ Q ((σ.set i (some x)).set j (some y)) H
theorem qg_two {i j : Nat} {x y : Str} {px py : Pos} {k} (hc : X.calm = true) (hN : X.N.Nodup) (hi : X.N[i]? = some x) (hj : X.N[j]? = some y) (hx : X.env.scope.names.lookup x = some .local) (hy : X.env.scope.names.lookup y = some .local) :
    QG X (.Tuple [.Name x px, .Name y py] k pos) (gTwo X.K i j) := by
  refine ⟨fun pins s σ H v u Q I r hw => ?_⟩
  obtain ⟨a, v1, v2, e1, hq, hw⟩ := hw
  subst e1
  cases r
  obtain ⟨its, rv, ht, hz⟩ := I.tuple hq
  refine assign_Tuple_tuple (I.ok.hd hc) ht (by simp [← rv.length]; rfl) (by rfl) fun h' hx' => ?_
  have kk : ∀ b o, s.heap.get? b = some o → h'.get? b = some o := fun b o e => hx' b o (Nat.ne_of_lt (Heap.lt_size e)) e
  have I1 : Inv X pins σ H { s with heap := h' } := I.kept (t' := s.toks) kk
  cases rv with
  | cons r1 rv =>
    cases rv with
    | cons r2 rv =>
      cases rv
      show wpAny _ _ (assignInOrder [assign (.Name x px) X.env, assign (.Name y py) X.env] [_, _]) _ _ _
      refine assignInOrder_cons (wpAny_assign_Name (qstore I1 hN hi hx r1 fun s2 k2 I2 => ?_))
      refine assignInOrder_cons (wpAny_assign_Name (qstore I2 hN hj hy r2 fun s3 k3 I3 => assignInOrder_nil ?_))
      exact ⟨⟨k3.1.trans k2.1, fun b o n e => k3.2 b o n (k2.2 b o n (kk b o e))⟩, _, H, I3, hw⟩
end
end Ru

set_option maxHeartbeats 1000000
/-! RuAB: for .. in a generator, turn by turn -/
namespace Ru
open PySem PySem.Spec PyProof.Rows GenW L2
/-- the base with another object at F -/
def reb (sc : Shared) (F : Addr) (o : Obj) : Shared := { sc with heap := sc.heap.update F (fun _ => o) }
theorem reb_size {sc : Shared} {F : Addr} {o : Obj} : (reb sc F o).heap.objs.size = sc.heap.objs.size := Heap.size_after_update ..
theorem reb_ne {sc : Shared} {F b : Addr} {o : Obj} (h : b ≠ F) : (reb sc F o).heap.get? b = sc.heap.get? b := Heap.get?_update_other _ _ (Ne.symm h)
theorem reb_at {sc : Shared} {F : Addr} {o o0 : Obj} (e : sc.heap.get? F = some o0) (hf : o.isFreed = false) : (reb sc F o).heap.get? F = some o := Heap.get?_update_self _ e hf
def eatF (sc : Shared) (F : Addr) : Eat where
  Gd := fun s₀ θ pk _ => pk = [] ∧ ∃ o, s₀.heap.get? F = some o ∧ θ = reb sc F o
  Ks := []
  Z := sc.heap.objs.size
  ks := fun s₀ θ pk ys h => by rw [h.1]; rfl
  sz := fun s₀ θ pk ys h => by obtain ⟨_, o, _, rfl⟩ := h; exact reb_size
/-- the sleeping generator, over the frame F of who consumes -/
theorem Inv.rebase {X0 : Cx} {xf : Shared → Value → Shared → Prop} {sc : Shared} {F : Addr} {o o1 : Obj} {ip : List (Addr × Obj)} {σ : L2.St} {H : Hp} {s s' : Shared} {o0 : Obj} {θ : Shared} (h0 : sc.heap.get? F = some o0) (f1 : o1.isFreed = false) (nf : ∀ vs, o1.data ≠ .fields vs) (nc : ∀ v, o1.data ≠ .cell v) (nc0 : ∀ v, o.data ≠ .cell v)
    (hsz : θ.heap.objs.size = sc.heap.objs.size) (hθ : ∀ b, b ≠ F → θ.heap.get? b = sc.heap.get? b) (hθF : θ.heap.get? F = some o) (hθo : θ.os = sc.os)
    (I : Inv (fam X0 xf θ) ip σ H s) (hF : F ∈ frs X0.outer) (hne : F ≠ X0.env.locals) (hsF : s'.heap.get? F = some o1) (k : ∀ b u, b ≠ F → s.heap.get? b = some u → s'.heap.get? b = some u) (os : s'.os = s.os) (hb : AllBare s'.gens) : Inv (fam X0 xf (reb sc F o1)) ip σ H s' := by
  have ok := I.ok
  have hex : F ∉ X0.ex := fun z => ok.exfs F z hF
  have hH0 : X0.H_0 F = none := ok.frf F hF
  have hHF : H F = none := I.base.free F o hθF hH0 hex
  obtain ⟨oS, hoS⟩ : ∃ oS, s.heap.get? F = some oS := I.base.there F o hθF hex
  have hoS' : ∃ sl, s.heap.get? F = some { o with slots := sl } := I.base.slot F o hθF hH0 hF hex
  have sz : (reb sc F o1).heap.objs.size = θ.heap.objs.size := reb_size.trans hsz.symm
  have gne : ∀ b, b ≠ F → (reb sc F o1).heap.get? b = θ.heap.get? b := fun b h => (reb_ne h).trans (hθ b h).symm
  have tr : ∀ b u, H b = some u → b ≠ F := fun b u e z => by rw [z, hHF] at e; cases e
  have cF : ∀ x c, X0.env.cells.lookup x = some c → c ≠ F := fun x c e z => by
    obtain ⟨v, ob, ho, hd⟩ := I.cell x c e
    obtain ⟨sl, q⟩ := hoS'
    rw [z, q] at ho; cases ho
    exact nc0 v hd
  have fun' : ∀ l : List Env, θ.heap.FunFrames X0.base l → (reb sc F o1).heap.FunFrames X0.base l := by
    intro l
    induction l with
    | nil => intro _; trivial
    | cons env r ih =>
      rintro ⟨hk, ⟨L, ob, hf, hn, ho, hd⟩, hr⟩
      by_cases e : L = F
      · subst e
        exact ⟨hk, ⟨L, o1, hf, hn, reb_at h0 f1, nf⟩, ih hr⟩
      · exact ⟨hk, ⟨L, ob, hf, hn, (gne L e).trans ho, hd⟩, ih hr⟩
  refine ⟨⟨ok.mod, ok.kind, ok.glob, ok.blt, by rw [show (fam X0 xf (reb sc F o1)).s_0.heap.objs.size = _ from sz]; exact ok.above, ok.inj, ok.has, fun x c a b => by rw [show (fam X0 xf (reb sc F o1)).s_0.heap.objs.size = _ from sz]; exact ok.cab x c a b, ok.hd, ok.frames, ok.stk, ok.exf, fun b u e => ?_, by rw [show (fam X0 xf (reb sc F o1)).s_0.heap.objs.size = _ from sz]; exact ok.bsz, ok.noex, ok.exfs, fun' _ ok.funs, ok.frf⟩, (os.trans I.os).trans hθo, hb, ?_, ?_, fun x c e => ?_, I.free, I.freeC, fun p hp => ?_, ?_, I.len⟩
  · have nb : b ≠ F := fun z => ok.nofr e (z ▸ hF)
    exact ⟨(gne b nb).trans (ok.bs b u e).1, (ok.bs b u e).2⟩
  · refine ⟨fun b u e n hb hx => ?_, fun b u e n hb hx => ?_, fun b u e n hx => ?_, fun b u e hx => ?_, I.base.tups, I.base.frzs, I.base.tbls⟩
    · have nb : b ≠ F := fun z => hb (z ▸ hF)
      exact k b u nb (I.base.keep b u ((gne b nb).symm.trans e) n hb hx)
    · by_cases nb : b = F
      · subst nb
        have e : (reb sc b o1).heap.get? b = some u := e
        rw [reb_at h0 f1] at e; cases e
        exact ⟨o1.slots, hsF⟩
      · obtain ⟨sl, q⟩ := I.base.slot b u ((gne b nb).symm.trans e) n hb hx
        exact ⟨sl, k b _ nb q⟩
    · by_cases nb : b = F
      · rw [nb]; exact hHF
      · exact I.base.free b u ((gne b nb).symm.trans e) n hx
    · by_cases nb : b = F
      · subst nb; exact ⟨o1, hsF⟩
      · obtain ⟨o', q⟩ := I.base.there b u ((gne b nb).symm.trans e) hx
        exact ⟨o', k b o' nb q⟩
  · obtain ⟨m, ⟨oL, es, ep, hoL, r⟩, hl⟩ := I.loc
    refine ⟨m, ⟨oL, es, ep, k _ _ (Ne.symm hne) hoL, r⟩, fun i x v e1 e2 e3 => ?_⟩
    obtain ⟨u, r, l⟩ := hl i x v e1 e2 e3
    refine ⟨u, r, ?_⟩
    rcases l with l | ⟨kk, c, e, ob, z, zd⟩
    · exact .inl l
    · exact .inr ⟨kk, c, e, ob, k _ _ (cF x c e) z, zd⟩
  · obtain ⟨v, ob, z, zd⟩ := I.cell x c e
    exact ⟨v, ob, k _ _ (cF x c e) z, zd⟩
  · obtain ⟨e, n, ne, nfs, d⟩ := I.pin p hp
    exact ⟨k _ _ (fun z => nfs (z ▸ hF)) e, n, ne, nfs, d⟩
  · exact hok_but (ch := [F]) I.hok (fun b hb => by rw [List.mem_singleton.mp hb]; exact hHF) fun b u hb e => k b u (fun z => hb (by rw [z]; simp)) e
/-- who consumes, behind a turn of the generator -/
theorem Inv.fed {X : Cx} {pins : List (Addr × Obj)} {σ1 σ5 : L2.St} {H1 H5 Hg : Hp} {sc s5 s' : Shared} {oF o0 : Obj} (I1 : Inv X pins σ1 H1 sc) (I5 : Inv X pins σ5 H5 s5) (h0 : sc.heap.get? X.env.locals = some o0) (hoF : s5.heap.get? X.env.locals = some oF) (f0 : oF.isFreed = false) (un : Un (frs X.stack) [] H1 Hg (reb sc X.env.locals oF).heap s'.heap)
    (os : s'.os = sc.os) (hb : AllBare s'.gens) (hok : HOk X.prog X.w Hg s'.heap) (hcl : ∀ x, X.env.cells.lookup x = none) : Inv X pins σ5 Hg s' := by
  have ok := I1.ok
  have lo : ∀ b o, X.s_0.heap.get? b = some o → b ≠ X.env.locals := fun b o e z => by
    have h1 := Heap.lt_size e
    have h2 := ok.above
    rw [z] at h1
    exact absurd (Nat.lt_of_lt_of_le h1 h2) (Nat.lt_irrefl _)
  have nst : ∀ b, b ≠ X.env.locals → b ∉ X.fs → b ∉ frs X.stack := fun b h1 h2 h3 => (List.mem_cons.mp (I1.stkSub b h3)).elim h1 h2
  have at0 : (reb sc X.env.locals oF).heap.get? X.env.locals = some oF := reb_at h0 f0
  refine ⟨ok, os.trans I1.os, hb, ⟨fun b o e n hb hx => ?_, fun b o e n hb hx => ?_, fun b o e n hx => ?_, fun b o e hx => ?_, fun b xs e => un.tups b xs (I1.base.tups b xs e), fun b o xs e => un.frzs b o xs (I1.base.frzs b o xs e), fun b ps e => ?_⟩, ?_, fun x c e => ?_, ?_, fun x c e => ?_, fun p hp => ?_, hok, I5.len⟩
  · have nb := lo b o e
    exact un.keep b o ((reb_ne nb).trans (I1.base.keep b o e n hb hx)) (I1.base.free b o e n hx) (nst b nb hb) (by simp)
  · have nb := lo b o e
    obtain ⟨sl, e1⟩ := I1.base.slot b o e n hb hx
    obtain ⟨sl2, e2⟩ := un.any ((reb_ne nb).trans e1) (I1.base.free b o e n hx) (by simp)
    exact ⟨sl2, e2⟩
  · have nb := lo b o e
    obtain ⟨o', e1⟩ := I1.base.there b o e hx
    exact un.free b o' ((reb_ne nb).trans e1) (I1.base.free b o e n hx) (by simp)
  · have nb := lo b o e
    obtain ⟨o', e1⟩ := I1.base.there b o e hx
    exact un.there b o' ((reb_ne nb).trans e1) (by simp)
  · obtain ⟨m1, e1⟩ := I1.base.tbls b ps e
    obtain ⟨m2, e2⟩ := un.tbls b _ e1
    exact ⟨m1 ++ m2, by rw [e2, Array.append_assoc]⟩
  · obtain ⟨m, ⟨o5, es, ep, ho5, r⟩, hl⟩ := I5.loc
    rw [hoF] at ho5; cases ho5
    obtain ⟨sl, e1⟩ := un.any at0 I1.free (by simp)
    refine ⟨m, ⟨_, es, ep, e1, r⟩, fun i x v e1 e2 e3 => ?_⟩
    obtain ⟨u, r, l⟩ := hl i x v e1 e2 e3
    refine ⟨u, r, ?_⟩
    rcases l with l | ⟨kk, c, e, _⟩
    · exact .inl l
    · rw [hcl x] at e; cases e
  · rw [hcl x] at e; cases e
  · exact un.free _ _ at0 I1.free (by simp)
  · rw [hcl x] at e; cases e
  · obtain ⟨e, n, ne, nfs, d⟩ := I1.pin p hp
    exact ⟨un.keep _ _ ((reb_ne ne).trans e) n (nst _ ne nfs) (by simp), un.free _ _ ((reb_ne ne).trans e) n (by simp), ne, nfs, d⟩
/-- for tg in g: body -/
def tForY (tgn : TGenY) (g : TG) (tb : TS) : TS := fun D σ H => tgn σ H fun Yd Qd H1 => ∃ W : Nat → L2.St → Prop, W 0 σ ∧
  (∀ ys x σ' H', W ys.length σ' → Yd (ys ++ [x]) H' → g x σ' H' fun σ2 H2 => tb { nx := fun σ3 H3 => H3 = H' ∧ W (ys.length + 1) σ3, rt := fun _ _ => False } σ2 H2) ∧
  ∀ ys σ' H', W ys.length σ' → Qd ys H' → D.nx σ' H'
theorem ps_forY {X : Cx} {k : Nat} {tg iter : Expr} {body : List Stmt} {tgn : TGenY} {g : TG} {tb : TS} {pos : Pos} (hp : PassesOwn (model X.prog X.w) X.A X.env X.xe) (hr : Room (k + 1) X.A) (hi : PGenY X k iter tgn E0) (hg : QG X tg g) (hb : QSs X body tb) (hst : X.stack = X.env :: X.outer) (hfr : X.env.frame = some X.env.locals) (hcl : ∀ x, X.env.cells.lookup x = none)
    (hs : ∀ x, foldedSetIterable iter X.env x = pure x := by intro _; rfl) : PS X (.For tg iter body [] pos) (tForY tgn g tb) := by
  refine ⟨fun pins s σ H D I h => ?_⟩
  refine wpAny_For (thn (hi.run pins s σ H _ I h) fun u s1 ⟨H1, sc, Yd, Qd, I1, G, W, w0, wS, wE⟩ => ?_) hs
  obtain ⟨a, gn, c, rfl, ha1, ha2, hgen, hgs, hos, hbr, hl, hkp, wake⟩ := G
  refine wpAny_pyIter_gen hgen ?_
  obtain ⟨N, qual, scp, f, cd, go, σ0, hgo, IG, hsz, seg⟩ := wake X.A.in1 hr.in1 I1.ok.frames
  have hFm : X.env.locals ∈ frs X.stack := by rw [hst]; unfold frs; rw [List.filterMap_cons, hfr]; exact List.mem_cons_self
  obtain ⟨m0, ⟨o0, es0, ep0, h0, hd0, _⟩, _⟩ := id I1.loc
  have ltF : X.env.locals < sc.heap.objs.size := I1.lt
  have neF : X.env.locals ≠ sc.heap.objs.size := Nat.ne_of_lt ltF
  have aF : a ≠ X.env.locals := fun z => absurd (Nat.lt_of_lt_of_le ltF ha1) (by rw [z]; exact Nat.lt_irrefl _)
  have ofNs : ∀ {pins σ H s}, Inv X pins σ H s → ∃ o, s.heap.get? X.env.locals = some o ∧ o.isFreed = false ∧ (∀ vs, o.data ≠ .fields vs) ∧ ∀ v, o.data ≠ .cell v := fun {pins σ H s} I => by
    obtain ⟨m, ⟨o, es, ep, ho, hd, _⟩, _⟩ := I.loc
    refine ⟨o, ho, ?_, (fun vs q => by rw [hd] at q; cases q), (fun v q => by rw [hd] at q; cases q)⟩
    obtain ⟨c1, c2, c3, c4⟩ := o
    have hd : c3 = _ := hd
    subst hd
    rfl
  have f00 : o0.isFreed = false := by
    obtain ⟨c1, c2, c3, c4⟩ := o0
    have hd0 : c3 = _ := hd0
    subst hd0
    rfl
  have nc00 : ∀ v, o0.data ≠ .cell v := fun v q => by rw [hd0] at q; cases q
  let GX := gcxOf X.prog X.w X.K X.mg X.base N qual scp f cd X.A.in1 X.stack sc H1 E0 [(a, go)]
  let GF := xfG X.prog X.w qual scp f cd X.A.in1 X.stack sc H1 E0 [(a, go)]
  let CE := eatF sc X.env.locals
  let Jn : Nat → Shared → Prop := fun n s => ∃ (i : Nat) (σ' : L2.St) (Hc : Hp) (gs : GenState), s.heap.IsGen a gn ∧ s.heap.NoLimit ∧ s.gens[gn]? = some gs ∧
    gs.Goes (model X.prog X.w) X.A.in1 (REndY GX GF X.prog X.w X.stack H1 a gn CE Qd E0) (GYy GX GF CE Yd) n (.send .none) (s.setGen gn .running) ∧ Inv X pins σ' Hc s ∧ n + i = sizeLine ∧ W i σ'
  have pg : ∀ {θ : Shared} {ip : List (Addr × Obj)} {σg : L2.St} {Hg : Hp} {sb : Shared}, Inv (fam GX GF θ) ip σg Hg sb → sb.heap.IsGen a gn := fun {θ ip σg Hg sb} J => hgo _ (J.pin (a, go) (List.mem_append_left _ (List.mem_singleton.mpr rfl))).1
  refine codeAny_forLoop_any Jn ?_ sizeLine ?_
  · rintro n s5 ⟨i, σ5, H5, gs, hg5, hl5, hgs5, hgo5, I5, hn5, hw5⟩
    have hgl : gn < s5.gens.size := (Array.getElem?_eq_some_iff.mp hgs5).1
    obtain ⟨oF, hoF, fF, _, ncF⟩ := ofNs I5
    refine wpAny_passesOwn hp (wpAny_gsz (n := gn + 1) hgl (next_genY (n := n) (A := X.A) (F := fun n s₀ s1 => ∃ ys ip σ H1' θ pk, n + ys.length = sizeLine ∧ CE.Gd s₀ θ pk ys ∧ Inv (fam GX GF θ) (pk ++ ip) σ H1' s1 ∧ Qd ys H1')
      (Y := GYy GX GF CE Yd) (Er := fun s₀ e s1 => (∃ θ pk ys, CE.Gd s₀ θ pk ys ∧ CX X.prog X.w X.stack H1 θ E0 e s1) ∧ s1.heap.IsGen a gn) hr.hd hl5 (by have := hr.dp; omega) hg5 hgs5 hgo5 (fun v s₁ gs' hbare hv => ?_) (fun s₁ hp' h' hk => ?_) fun e s₁ he => ?_))
    · intro hsz1
      obtain ⟨ys, x, ip, σg, Hg, θ, pk, hn, rv, hgd, hip, JY, hYd, hkap⟩ := hv
      obtain ⟨rfl, oF', hoF', rfl⟩ := hgd
      have hoF' : s5.heap.get? X.env.locals = some oF' := hoF'
      rw [hoF] at hoF'; cases hoF'
      have bare1 : AllBare (s₁.setGen gn gs').gens := allBare_setGen JY.bare hbare
      have I6 : Inv X pins σ5 Hg (s₁.setGen gn gs') := Inv.fed (s' := s₁.setGen gn gs') I1 I5 h0 hoF fF (show Un (frs X.stack) [] H1 Hg (reb sc X.env.locals oF).heap s₁.heap from JY.base) (show s₁.os = sc.os from JY.os) bare1 JY.hok hcl
      obtain ⟨o6, ho6, f6, nf6, nc6⟩ := ofNs I6
      cases n with
      | zero =>
        exact (hkap ((s₁.setGen gn gs').setGen gn .running) _ [] ⟨rfl, o6, ho6, rfl⟩ (Inv.rebase (s' := (s₁.setGen gn gs').setGen gn .running) (o := oF) h0 f6 nf6 nc6 ncF reb_size (fun b h => reb_ne h) (reb_at h0 fF) rfl JY hFm neF ho6 (fun _ _ _ e => e) rfl (allBare_setGen bare1 rfl))).elim
      | succ n =>
      have hi : ys.length = i := by omega
      subst hi
      obtain ⟨og, nm, qn, hog, hoc, hod, _⟩ := pg JY
      refine wpAny_passesOwn hp (go_of (s := s₁.setGen gn gs') hog hoc hod (by decide) ?_)
      refine wpAny_passesOwn hp (thn (hg.run pins _ σ5 Hg x v _ I6 rv (wS ys x σ5 Hg hw5 hYd)) fun _ s6 ⟨k6, σ6, H6, I6', q6⟩ => ?_)
      refine wpAny_passesOwn hp (thn (hb.run pins s6 σ6 H6 _ I6' q6) fun fl s7 ⟨k7, q7⟩ => ?_)
      have k67 := k6.trans k7
      cases fl with
      | brk => obtain ⟨_, _, _, q⟩ := q7; exact q.elim
      | ret u => obtain ⟨_, _, _, _, _, q⟩ := q7; exact q.elim
      | cont => obtain ⟨_, _, _, q⟩ := q7; exact q.elim
      | next =>
        obtain ⟨σ7, H7, I7, rfl, w7⟩ := q7
        obtain ⟨o7, ho7, f7, nf7, nc7⟩ := ofNs I7
        have gens7 : s7.gens = (s₁.setGen gn gs').gens := k67.1
        have keep7 : ∀ b u, b ≠ X.env.locals → s₁.heap.get? b = some u → s7.heap.get? b = some u := k67.2
        have hsz1' : gn < s₁.gens.size := by
          have q : (s₁.setGen gn gs').gens.size = s₁.gens.size := setGen_size _ _ _
          have hsz1 : gn + 1 ≤ (s₁.setGen gn gs').gens.size := hsz1
          omega
        have J7 : Inv (fam GX GF (reb sc X.env.locals o7)) ip σg H7 (s7.setGen gn .running) := Inv.rebase (s' := s7.setGen gn .running) (o := oF) h0 f7 nf7 nc7 ncF reb_size (fun b h => reb_ne h) (reb_at h0 fF) rfl JY hFm neF ho7 keep7
          (show s7.os = s₁.os from I7.os.trans (I6.os.symm)) (allBare_setGen I7.bare rfl)
        · refine ⟨n, Nat.lt_succ_self _, ys.length + 1, σ7, H7, gs', Heap.IsGen.of_get (pg JY) fun o e => keep7 a o aF e, I7.nolimit, ?_, ?_, I7, by omega, w7⟩
          · rw [gens7]; exact setGen_at hsz1'
          · exact hkap (s7.setGen gn .running) _ [] ⟨rfl, o7, ho7, rfl⟩ J7
    · intro _
      obtain ⟨ys, ip, σg, Hg, θ, pk, hn, hgd, JE, hQd⟩ := hp'
      obtain ⟨rfl, oF', hoF', rfl⟩ := hgd
      have hoF' : s5.heap.get? X.env.locals = some oF' := hoF'
      rw [hoF] at hoF'; cases hoF'
      have bE : AllBare (s₁.setGen gn .finished).gens := allBare_setGen JE.bare rfl
      have I6 : Inv X pins σ5 Hg (s₁.setGen gn .finished) := Inv.fed (s' := s₁.setGen gn .finished) I1 I5 h0 hoF fF (show Un (frs X.stack) [] H1 Hg (reb sc X.env.locals oF).heap s₁.heap from JE.base) (show s₁.os = sc.os from JE.os) bE JE.hok hcl
      have hi : ys.length = i := by omega
      subst hi
      exact wpAny_execs_nil ⟨σ5, Hg, I6.kept (h' := h') (t' := s₁.toks) hk, wE ys σ5 Hg hw5 hQd⟩
    · obtain ⟨⟨θ, pk, _, _, hcx⟩, _⟩ := he
      obtain ⟨_, _, _, _, _, _, _, _, _, _, _, _, q⟩ := hcx
      exact False.elim q
  · have hb1 : AllBare (s1.setGen gn .running).gens := allBare_setGen hbr rfl
    have I1' : Inv X pins σ H1 s1 := I1.call' (ch := []) hos (Un.kept hkp) (I1.hok.kept hkp) hbr fun b z => by simp at z
    have J1 : Inv (fam GX GF (reb sc X.env.locals o0)) [] σ0 H1 (s1.setGen gn .running) := Inv.rebase (s' := s1.setGen gn .running) (θ := sc) (o := o0) h0 f00 (fun vs q => by rw [hd0] at q; cases q) nc00 nc00 rfl (fun _ _ => rfl) h0 rfl IG hFm neF (hkp _ _ h0) (fun _ _ _ e => e) rfl hb1
    refine ⟨0, σ, H1, .fresh c, hgen, hl, hgs, ⟨rfl, ?_⟩, I1', by simp, w0⟩
    exact seg CE (s1.setGen gn .running) (reb sc X.env.locals o0) [] ⟨rfl, o0, hkp _ _ h0, rfl⟩ J1
end Ru

set_option maxHeartbeats 2000000
/-! an own exception over own bases over ValueError: def __init__(self, index): super().__init__(f'..{index}'); self.index = index -/
namespace PySem
namespace IxX
open PySem.W PySem.Calls PyProof.Rows PySem.HandSPX
/-! ### the text of __init__ -/
def iA (p1 p2 : Pos) : Arguments := { posonlyargs := [], args := [{ arg := "self", annotation := none, pos := p1 }, { arg := "index", annotation := none, pos := p2 }], vararg := none, kwonlyargs := [], kw_defaults := [], kwarg := none, defaults := [] }
def iB (msg : Str) (k : Nat) (r1 r2 r3 r4 r5 r6 r7 r8 r9 q1 q2 q3 q4 : Pos) : List Stmt :=
  [.Expr (.Call (.Attribute (.Call (.Name "super" r1) [] [] r2) "__init__" r3) [.JoinedStr [.Constant (.str msg) k r4, .FormattedValue (.Name "index" r5) (-1) none r6] r7] [] r8) r9,
   .Assign [.Attribute (.Name "self" q1) "index" q2] (.Name "index" q3) q4]
def iS : Scope := { kind := .function, names := [(PySem.Str.ofString "self", .local), (PySem.Str.ofString "index", .local), (PySem.Str.ofString "__class__", .free), (PySem.Str.ofString "super", .globalImplicit)], isGenerator := false, isCoroutine := false, more := [] }
/-- what the written part says of such a class, named nm, at C, and of its __init__, at fI -/
structure IxTxt (P : Program) (K : Frag) (mg : Str → Option Value) (nm : Str) (C fI : Addr) : Prop where
  gC : mg nm = some (.ref C)
  cls : ∃ nm q N bs bm sn sub ab col dd k0 k1 k2 k3 k5, K.lookup C = some (excClassObj nm q C N bs bm true sn sub ab col dd k0 k1 k2 k3 k5 "ValueError.__new__") ∧ refsVE bm = true
  sa : findIn K (.ref C) "__setattr__" = some (some (.builtin "object.__setattr__"))
  ga : findIn K (.ref C) "__getattribute__" = some (some (.builtin "BaseException.__getattribute__"))
  gg : findIn K (.ref C) "__getattr__" = some none
  noN : findIn K (.ref C) "index" = some none
  iC : findIn K (.ref C) "__init__" = some (some (.ref fI))
  tC : typeIn K (.ref fI) = some (.type "function")
  kC : keepIn K (.ref C) = true
  exC : subIn K (.ref C) (.type "BaseException") = some true
  tyC : typeIn K (.ref C) = some (.type "type")
  hdC : hasDictIn K C = true
  mr : mroIn K C (.ref C) = some true
  su : ks_superIn K C C "__init__" = some (some (.builtin "ValueError.__init__"))
  ve : subIn K (.ref C) (.type "ValueError") = some true
  any : nsIn K cStatics "thirdparty.any" = some none
  noS : mg "super" = none
  top : (P.main.scope.names.lookup ("super" : Str)).isSome = false
  fn : ∃ (oc : Value) (od : Option Addr) (qual : Str) (doc pm : Value) (an : Option Addr) (cda cc : Addr) (ct : Value) (osl : Array (Option Value)) (msg : Str) (k : Nat) (p1 p2 r1 r2 r3 r4 r5 r6 r7 r8 r9 q1 q2 q3 q4 : Pos),
    (r3.endLine == r8.line) = true ∧ K.lookup fI = some ⟨oc, od, .func (ksFn "__init__" qual (iA p1 p2) (iB msg k r1 r2 r3 r4 r5 r6 r7 r8 r9 q1 q2 q3 q4) iS .none .none doc pm an (.ref cda) ct cc), osl⟩ ∧ codeIn K (.ref cda) qual = true ∧ msg.length ≤ 1000 ∧
    (∃ (ccl : Value) (cdd : Option Addr) (vs : Array Value) (ccs : Array (Option Value)) (file : Str) (tf : Tok), K.lookup cda = some ⟨ccl, cdd, .fields vs, ccs⟩ ∧ vs[2]? = some (.str file tf) ∧ ((P.main.file : Str) == file) = true) ∧
    (∃ (cl : Value) (cld : Option Addr) (csl : Array (Option Value)), K.lookup cc = some ⟨cl, cld, .cell (some (.ref C)), csl⟩)
theorem one_size (v : Value) : [v].length ≤ sizeLine := by
  rw [sizeLine_eq]
  exact (by decide : 1 ≤ 16777216)
theorem kept_but {K : Frag} {h h' : Heap} {x : Addr} (X : K.In h) (hx : K.lookup x = none) (k : ∀ b o, b ≠ x → h.get? b = some o → h'.get? b = some o) : K.In h' := fun a o e =>
  k a o (fun z => by rw [z, hx] at e; cases e) (X a o e)
theorem ns_but {h h' : Heap} {L x : Addr} {m : Str → Option Value} (n : h.Ns L m) (hx : L ≠ x) (k : ∀ b o, b ≠ x → h.get? b = some o → h'.get? b = some o) : h'.Ns L m := by
  obtain ⟨o, es, ep, h1, h2⟩ := n
  exact ⟨o, es, ep, k _ _ hx h1, h2⟩
/-- what __init__ leaves of a fresh exception at x -/
structure InitEnd (h h' : Heap) (x C dx t1 : Addr) (v : Value) : Prop where
  keep : ∀ b o, b ≠ x → h.get? b = some o → h'.get? b = some o
  obj : h'.get? x = some { cls := .ref C, dict := some dx, data := .fields #[.ref t1, .none, .none, .none, .bool false, .none] }
  dbig : h.objs.size ≤ dx
  dne : dx ≠ x
  ns : h'.Ns1 dx (fun y => if y = "index" then some v else none)
section
variable {prog : Program} {w : World} {A : Around} {E : Value → Shared → Prop} {h : Heap} {g : Array GenState} {d : Drawn} {t : Nat} {os : OsState}
/-- the bound __init__ of ValueError is called: nothing of it is told but that the exception stands anew -/
theorem call_mw {nm q : Str} {C N u e t0 : Addr} {bs bm : List Value} {hdct : Bool} {sn : List Str} {sub : List Value} {ab : Bool} {col : Option Bool} {dd : Option Addr} {k0 k1 k2 k3 k5 : Option Value} {rest : List Value} {Q : Value → Shared → Prop}
    (hC : h.get? C = some (excClassObj nm q C N bs bm hdct sn sub ab col dd k0 k1 k2 k3 k5 "ValueError.__new__")) (he : h.get? e = some (excO C t0)) (hu : h.get? u = some (kxs_mw "ValueError.__init__" e)) (hz : rest.length ≤ sizeLine)
    (hq : ∀ h' t1, (∀ b o, b ≠ e → h.get? b = some o → h'.get? b = some o) → h'.get? e = some (excO C t1) → Q .none ⟨h', g, d, t, os⟩) :
    wpAny (model prog w) A (call (.ref u) rest) Q E ⟨h, g, d, t, os⟩ := by
  have F := F.excBase_ValueError
  refine wpAny_call (codeAny_of_tree ?_)
  show wpAny _ A.in1 (callAny (.ref u) ⟨rest, []⟩) _ _ _
  simp only [callAny]
  refine wpAny_bind (wpAny_load hu ?_)
  have isMw : (Value.type "method-wrapper" == Value.type "method"
      || Value.type "method-wrapper" == Value.type "builtin_function_or_method"
      || Value.type "method-wrapper" == Value.type "method-wrapper") = true := by decide
  simp only [kxs_mw, isMw, if_true]
  refine KFB.if_so (by decide) ?_
  refine wpAny_bind (check_bound_init F.toExcCallFacts hC he rfl ?_)
  refine wpAny_bind (wpAny_pure (wpAny_pure ?_))
  refine ⟨plainId_quiet F.init.plain _, codeAny_builtin F.initEntry ?_⟩
  exact exc_init_tree (cls := .ref C) (t0 := t0) (dv := none) (c2 := .none) (c3 := .none) (b4 := .bool false) he hz (fun h' k e' _ => hq h' h.objs.size k e')
end
section
variable {prog : Program} {w : World} {A : Around} {E : Value → Shared → Prop} {R : Result → Shared → Prop} {s : Shared} {K : Frag} {mg : Str → Option Value} {nm : Str} {C fI : Addr}
theorem ix_init (T : IxTxt prog K mg nm C fI) {x t0 : Addr} {i : Int} {ti : Tok} (X : K.In s.heap) (G : s.heap.Ns mainGlobals mg) (B : ∃ mb, s.heap.Ns builtinsNs mb ∧ ∀ y : Str, y ≠ "__name__" → mb y = bootBuiltins y) (hlim : s.heap.NoLimit)
    (hx : s.heap.get? x = some (excO C t0)) (hnx : K.lookup x = none) (hroom : A.depth < recursionLimit) (hi : i.natAbs.log2 < 1920)
    (hq : ∀ h' tk dx t1, InitEnd s.heap h' x C dx t1 (.int i ti) → R (.ok (.ret .none)) { s with heap := h', toks := tk }) :
    codeAny (model prog w) A (.call (.ref fI) ⟨[.ref x, .int i ti], []⟩) R s := by
  obtain ⟨oc, od, qual, doc, pm, an, cda, cc, ct, osl, msg, kk, p1, p2, r1, r2, r3, r4, r5, r6, r7, r8, r9, q1, q2, q3, q4, hline, ho, hcd, hmsg, ⟨ccl, cdd, vs, ccs, file, tf, hcode, hvs, hfile⟩, cl, cld, csl, hcell⟩ := T.fn
  obtain ⟨nm', q', N, bs, bm, sn, sub, ab, col, dd, k0, k1, k2, k3, k5, hC, hbm⟩ := T.cls
  have hcl : clsIn K C = some { name := nm', bases := bs, mro := .ref C :: bm, ns := N, qualname := q', hasDict := true, slotNames := sn, subclasses := sub, abstract := ab, collection := col, hasDel := false } := by unfold clsIn; rw [hC] <;> rfl
  obtain ⟨mb, Bn, Bb⟩ := B
  obtain ⟨hh, g, d, tk, os⟩ := s
  refine ks_codeAny_call_defAt (binds := [("self", .ref x), ("index", .int i ti)]) hroom (X _ _ ho) rfl hlim (codeRec_of X hcd) rfl (BindsTo.of_eq (by first | rfl | with_unfolding_all rfl)) (fun y hy => ?_) (fun y hy => ?_) (fun h₁ hns k => ?_)
  · have hy : y ∈ iS.names := hy
    have z : ∀ u ∈ iS.names, u.2 ≠ NameKind.cell := by decide
    exact z y hy
  · simp only [List.mem_cons, List.not_mem_nil, or_false] at hy
    rcases hy with rfl | rfl
    · rfl
    · rfl
  have X₁ : K.In h₁ := X.keeps k
  have hxL : hh.objs.size ≠ x := Nat.ne_of_gt (Heap.lt_size hx)
  refine ks_wpAt_execs_cons ?_
  refine ks_wpAt_Expr_any ?_
  rw [arm_eval_Call]
  refine wpAt_bind ?_
  refine ks_wpAt_super_base (env := callEnv _ _ _) (by rfl) (by rfl) (by decide) rfl (X₁ _ _ ho) rfl rfl rfl (X₁ _ _ hcode) rfl hvs hfile T.top ?_
  obtain ⟨oD, hD1, hD2⟩ : ∃ oD, h₁.get? C = some oD ∧ oD.data = .cls { name := nm', bases := bs, mro := .ref C :: bm, ns := N, qualname := q', hasDict := true, slotNames := sn, subclasses := sub, abstract := ab, collection := col, hasDel := false } := ⟨_, X₁ _ _ hC, rfl⟩
  have hx₁ := k _ _ hx
  have hxC : x ≠ C := fun z => by rw [z, hC] at hnx; cases hnx
  refine ks_loadName_global (by rfl) (by rfl) (loadGlobal_builtin (mg := mg) (mb := mb) (v := .type "super") (Heap.Ns.keeps G k) T.noS (Heap.Ns.keeps Bn k) ((Bb _ (by decide +kernel)).trans (by first | boot_by_name | rfl | kernel_rfl)) ⟨rfl, ?_⟩)
  refine wpAny_loadName_free (by rfl) (by rfl) (by rfl) ⟨_, X₁ _ _ hcell, rfl⟩ ?_
  refine wpAny_loadName_local (by rfl) (by rfl) hns (by rfl) ?_
  refine ks_wpAny_isType_cls hD1 hD2 ⟨rfl, ?_⟩
  refine ks_wpAny_call_super hD1 hD2 hx₁ rfl (fun c e => by cases e) (looks_mroIn X₁ T.mr) (fun h₂ e k₂ => ?_)
  have X₂ : K.In h₂ := X₁.keeps k₂
  have hx₂ := k₂ _ _ hx₁
  have hI : Looks (model prog w) h₂ (isInstance (.ref x) (.type "ValueError")) true :=
    Looks.andThen (W.InstAt.type (C := C) (od := none) ⟨hx₂, rfl, rfl, trivial⟩) (looks_subIn X₂ T.ve)
  have hmr : Looks (model prog w) h₂ (mroOf (.ref C)) (Value.ref C :: bm) := (looks_clsIn X₂ hcl).andThen .now
  have hsu : alongIn K "__init__" (((Value.ref C :: bm).dropWhile (· != .ref C)).drop 1) = some (some (.builtin "ValueError.__init__")) := by
    have z := T.su
    unfold ks_superIn at z
    rw [hcl] at z
    exact z
  refine wpAt_of_wpAny (wpAny_bind (wpAny_standAt ?_))
  have hpos : methodCallPos true (.Call (.Name "super" r1) [] [] r2) (callEnv (ksFn "__init__" qual (iA p1 p2) (iB msg kk r1 r2 r3 r4 r5 r6 r7 r8 r9 q1 q2 q3 q4) iS .none .none doc pm an (.ref cda) ct cc) hh.objs.size fI) r3 r8 = pure r8 := by
    unfold methodCallPos
    simp [hline]
  unfold methodCall
  refine wpAny_bind (wpAny_holding ?_)
  refine kxs_getMethod kxs_ValueError e (looks_opaque X₂ T.any) hmr rfl X₂ hsu hI hxC (by decide) ?_
  refine wpAny_bind (wpAny_of_eq hpos ?_)
  have hC₂ := X₂ _ _ hC
  have huN : ∀ (b : Addr) (o : Obj), h₂.get? b = some o → (h₂.push (kxs_mw "ValueError.__init__" x)).get? b = some o := fun b o e => Heap.get?_push_of_some _ e
  refine kxs_callWith (i := "ValueError.__init__") (x := x) rfl ?_
  refine evalArgs_plain (rest := []) (spliced_cons ?_)
  refine wpAny_JoinedStr (pos := r7) ?_
  have lt : (Str.ofString (toString i)).length ≤ 1921 := by
    rw [ofString_length]
    exact int_text_length_le (k := 1920) (by decide) hi
  have z0 : (Str.empty ++ msg).length ≤ sizeLine := by
    rw [Str.length_append, sizeLine_eq]
    have : (Str.empty).length = 0 := rfl
    omega
  have z1 : (Str.empty ++ msg ++ Str.ofString (toString i)).length ≤ sizeLine := by
    rw [Str.length_append, Str.length_append, sizeLine_eq]
    have : (Str.empty).length = 0 := rfl
    omega
  refine Calls.Constant_str ⟨msg, _, rfl, z0, ?_⟩
  refine wpAny_FormattedValue_plain (wpAny_Name (wpAny_loadName_local (m := fun y => List.lookup y [(Str.ofString "self", Value.ref x), (Str.ofString "index", Value.int i ti)].reverse) (by rfl) (by rfl) (Heap.Ns.keeps (Heap.Ns.keeps hns k₂) huN) (by rfl) ?_) (by decide))
  · refine wpAny_formatField_int hi ⟨_, _, rfl, z1, z1, spliced_nil ⟨Heap.get?_push_at rfl rfl, ?_⟩⟩
    refine call_mw (t0 := t0) (huN _ _ hC₂) (huN _ _ hx₂) (Heap.get?_push_at rfl rfl) (one_size _) (fun h₃ t1 k₃ hx₃ => ?_)
    have nuL : ∀ {L : Addr}, L ≠ x → ∀ {m : Str → Option Value}, h₁.Ns L m → h₃.Ns L m := fun hL m n => ns_but (Heap.Ns.keeps (Heap.Ns.keeps n k₂) huN) hL k₃
    have X₃ : K.In h₃ := kept_but (X₂.keeps huN) hnx k₃
    have hn₃ := nuL hxL hns
    refine wpAt_of_wpAny (wpAny_execs_cons (plainObj_wpAny_Assign_Attribute ?_))
    refine wpAny_Name (wpAny_loadName_local (v := .int i ti) (by rfl) (by rfl) hn₃ (by rfl) ?_) (by decide)
    refine wpAny_Name (wpAny_loadName_local (v := .ref x) (by rfl) (by rfl) hn₃ (by rfl) ?_) (by decide)
    refine set_plain X₃ (ox := excO C t1) (od := none) ⟨hx₃, rfl, rfl, trivial⟩ T.sa ?_
    refine exc_osa X₃ hx₃ hcl (show refsVE (.ref C :: bm) = true from hbm) rfl T.noN (fun h₄ tk₄ dx k₄ dn dne hx₄ hn₄ => ?_)
    refine wpAny_execs_nil ?_
    refine hq h₄ tk₄ dx t1 ⟨fun b o hb e => k₄ b o hb (k₃ b o hb (huN _ _ (k₂ _ _ (k b o e)))), hx₄, ?_, dne, hn₄⟩
    exact Nat.le_of_lt (Nat.lt_of_lt_of_le hn₃.lt dn)
/-- a made one -/
structure OwnMade (h h' : Heap) (e C d : Addr) (v : Value) : Prop where
  keep : ∀ b o, h.get? b = some o → h'.get? b = some o
  new : h.objs.size ≤ e
  obj : ∃ oe vs, h'.get? e = some oe ∧ oe.cls = .ref C ∧ oe.dict = some d ∧ oe.data = .fields vs ∧ vs[1]? = some .none
  dbig : h.objs.size ≤ d
  dne : d ≠ e
  ns : h'.Ns1 d (fun y => if y = "index" then some v else none)
theorem ix_made (T : IxTxt prog K mg nm C fI) {i : Int} {ti : Tok} (X : K.In s.heap) (G : s.heap.Ns mainGlobals mg) (B : ∃ mb, s.heap.Ns builtinsNs mb ∧ ∀ y : Str, y ≠ "__name__" → mb y = bootBuiltins y) (hlim : s.heap.NoLimit) (hroom : A.depth + 1 < recursionLimit) (hi : i.natAbs.log2 < 1920)
    (hq : ∀ h' tk e d, OwnMade s.heap h' e C d (.int i ti) → R (.ok (.ret (.ref e))) { s with heap := h', toks := tk }) :
    codeAny (model prog w) A (.call (.ref C) ⟨[.int i ti], []⟩) R s := by
  obtain ⟨nm, q, N, bs, bm, sn, sub, ab, col, dd, k0, k1, k2, k3, k5, hC, hbm⟩ := T.cls
  obtain ⟨hp, g, dr, tk, os⟩ := s
  have k : ∀ b o, hp.get? b = some o → ((hp.push (kdv_tup [.int i ti])).push (excO C hp.objs.size)).get? b = some o := fun b o e => Heap.get?_push_of_some _ (Heap.get?_push_of_some _ e)
  have hget : ((hp.push (kdv_tup [.int i ti])).push (excO C hp.objs.size)).get? (hp.objs.size + 1) = some (excO C hp.objs.size) := by heap_get
  have hnx : K.lookup (hp.objs.size + 1) = none := by
    cases e : K.lookup (hp.objs.size + 1) with
    | none => rfl
    | some o =>
      have z : hp.get? (hp.objs.size + 1) = some o := X _ _ e
      exact absurd (Nat.lt_of_succ_lt (Heap.lt_size z)) (Nat.lt_irrefl _)
  obtain ⟨mb, Bn, Bb⟩ := B
  refine call_own F.excBase_ValueError (fun X => refsVE_contains X bm hbm) (X _ _ hC) (looks_findIn X T.iC) (fun self => bind_fn X self T.tC) (one_size _) ?_
  refine ix_init (s := ⟨(hp.push (kdv_tup [.int i ti])).push (excO C hp.objs.size), g, dr, tk, os⟩) T (X.keeps k) (Heap.Ns.keeps G k) ⟨mb, Heap.Ns.keeps Bn k, Bb⟩ (hlim.keeps k) hget hnx ?_ hi fun h' tk' dx t1 ⟨k', hx, dn, dne, hns⟩ => ?_
  · show A.depth + 1 < recursionLimit
    exact hroom
  · have old : ∀ b o, hp.get? b = some o → h'.get? b = some o := fun b o e => k' b o (Nat.ne_of_lt (Nat.lt_succ_of_lt (Heap.lt_size e))) (k b o e)
    have z : hp.objs.size + 1 + 1 ≤ dx := by
      first
        | (simpa only [Heap.size_push] using dn)
        | exact dn
        | (have q := dn; rw [Heap.size_push, Heap.size_push] at q; exact q)
    exact ⟨rfl, hq h' tk' (hp.objs.size + 1) dx ⟨old, Nat.le_succ _, ⟨_, _, hx, rfl, rfl, rfl, rfl⟩, Nat.le_trans (Nat.le_trans (Nat.le_succ _) (Nat.le_succ _)) z, dne, hns⟩⟩
end
end IxX
end PySem
namespace L2
open PySem PySem.Spec PyProof.Rows
theorem relO_ix {v : V} {v' : Value} (r : RelV v v') (f : Str) : RelO (List.lookup f [(("index" : Str), v)]) (if f = "index" then some v' else none) := by
  by_cases hw : f = "index"
  · subst hw
    rw [if_pos rfl]
    have q : List.lookup ("index" : Str) [(("index" : Str), v)] = some v := by simp [List.lookup]
    rw [q]
    exact r
  · rw [if_neg hw]
    have qw : (f == ("index" : Str)) = false := by simpa using hw
    have q2 : List.lookup f [(("index" : Str), v)] = none := by simp [List.lookup, qw]
    rw [q2]
    trivial
section
variable {X : Cx} {nm : Str} {C fI : Addr}
/-- InvalidX(e) -/
def tMkIx (C : Addr) (ta : TA) : St → Hp → XK → Prop := fun σ H Q => ta σ H fun vs H1 => ∃ i : Int, vs = [.int i] ∧ i.natAbs.log2 < 1920 ∧ ∀ d, H1 d = none → Q (.ref C) (some d) (upd H1 d (.xd [(("index" : Str), .int i)]))
theorem pmk_ix {a : Expr} {ta : TA} {p pos : Pos} {k : Nat} (T : PySem.IxX.IxTxt X.prog X.K X.mg nm C fI) (hr : Room k X.A) (ha : PA X [a] ta) (hg : Gl X nm) (hdb : (nm == ("__debug__" : Str)) = false := by decide)
    (he : starEach (a :: []) X.env = (false, eval a X.env) :: starEach [] X.env := by rfl) (hpl : (backTo pos (starEach [] X.env)).any (·.1) = false := by rfl) :
    PMk X (.Call (.Name nm p) [a] [] pos) (tMkIx C ta) := by
  intro pins s σ H Q I h
  refine wpAny_Call_Name_kw (ld_glob I hg T.gC ?_ hdb)
  refine PySem.W.callWith_K (h₀ := X.base) I.ok.mod.kin T.kC (thn (ha.run pos pins s σ H _ I h) fun us s1 hh => ?_) he hpl
  obtain ⟨vs, H1, I1, r1, i, ev, hi, q1⟩ := hh
  subst ev
  refine ⟨I1.kIn, ?_⟩
  cases r1 with
  | cons rv rn =>
    rename_i v' us'
    cases rn
    obtain ⟨ti, rfl⟩ := rv
    show wpAny _ _ (call (.ref C) [.int i ti]) _ _ _
    have hlim := I1.nolimit
    have hglob := I1.ok.mod.glob.keeps I1.bk
    have hbl : ∃ mb, s1.heap.Ns builtinsNs mb ∧ ∀ y : Str, y ≠ "__name__" → mb y = bootBuiltins y := by
      obtain ⟨mb, b1, b2⟩ := I1.ok.mod.blt
      exact ⟨mb, b1.keeps I1.bk, b2⟩
    have hkin := I1.kIn
    obtain ⟨hp, g, dr, tk, os⟩ := s1
    refine wpAny_call (PySem.IxX.ix_made T hkin hglob hbl hlim (by have := hr.dp; omega) hi fun h' tk' e d M => ?_)
    show MkP X pins σ Q (.ref e) ⟨h', g, dr, tk', os⟩
    obtain ⟨oe, fv, hoe, hc, hd, hdat, h1⟩ := M.obj
    have hns := M.ns
    obtain ⟨G', g1, g2⟩ := restrict h' fun b => decide (b ≠ e)
    have gk : ∀ b, b ≠ e → G'.get? b = h'.get? b := fun b hb => g1 b (decide_eq_true hb)
    have ge : G'.get? e = none := g2 e (by simp)
    have old : ∀ b o, hp.get? b = some o → G'.get? b = some o := fun b o q => (gk b (Nat.ne_of_lt (Nat.lt_of_lt_of_le (Heap.lt_size q) M.new))).trans (M.keep b o q)
    have ob : ObjOk X.prog X.w (upd H1 d (.xd [(("index" : Str), .int i)])) G' d (.xd [(("index" : Str), .int i)]) :=
      ⟨_, hns.at (fun o q => (gk d M.dne).trans q), fun f => relO_ix (v := .int i) (v' := .int i ti) ⟨ti, rfl⟩ f⟩
    have J : Inv X pins σ (upd H1 d (.xd [(("index" : Str), .int i)])) ⟨G', g, dr, tk', os⟩ := I1.laid (t' := tk') old M.dbig ob
    refine ⟨e, oe, fv, ⟨G', g, dr, tk', os⟩, _, .ref C, some d, rfl, J, fun b o q => ?_, ge, hoe, ⟨hc, hd⟩, hdat, h1, ?_, rfl, I1.bare, raises_own T.exC T.tyC, q1 d (I1.hok.fresh M.dbig)⟩
    · by_cases hb : b = e
      · have q' : G'.get? b = some o := q
        rw [hb, ge] at q'; cases q'
      · exact (gk b hb).symm.trans q
    · rw [upd_ne (Ne.symm M.dne)]
      exact I1.hok.fresh M.new
/-- raise InvalidX(e) -/
def tRaiseIx (C : Addr) (W : WX) (ta : TA) : TS := fun _ σ H => tMkIx C ta σ H fun cls d H' => W cls d σ H'
theorem ps_raiseIx {a : Expr} {ta : TA} {W : WX} {p pos pos2 : Pos} {k : Nat} (hc : X.calm = true) (T : PySem.IxX.IxTxt X.prog X.K X.mg nm C fI) (hr : Room k X.A) (tk : Takes X W) (ha : PA X [a] ta) (hg : Gl X nm) (hdb : (nm == ("__debug__" : Str)) = false := by decide)
    (he : starEach (a :: []) X.env = (false, eval a X.env) :: starEach [] X.env := by rfl) (hpl : (backTo pos (starEach [] X.env)).any (·.1) = false := by rfl) :
    PS X (.Raise (some (.Call (.Name nm p) [a] [] pos)) none pos2) (tRaiseIx C W ta) := ps_raise hc tk (pmk_ix T hr ha hg hdb he hpl)
/-- e.index, e the exception that the suite holds (at a; its class cls, its dict d) -/
def tByIx (C : Addr) (a : Addr) (cls : Value) (d : Option Addr) (te : TE) : TE := fun σ H Q => te σ H fun x H1 => x = .ref a ∧ cls = .ref C ∧ ∃ (dd : Addr) (v : V), d = some dd ∧ H1 dd = some (.xd [(("index" : Str), v)]) ∧ Q v H1
theorem pe_byIx {a : Addr} {oe : Obj} {cls : Value} {d : Option Addr} {pn : List (Addr × Obj)} {e : Expr} {te : TE} {pos : Pos} (T : PySem.IxX.IxTxt X.prog X.K X.mg nm C fI) (hz : Zc cls d oe) (hf : ∃ vs, oe.data = .fields vs) (he : PE (X.suite a ((a, oe) :: pn)) e te)
    (hb : attributeBase e "index" X.env (eval e X.env) = eval e X.env := by rfl) :
    PE (X.suite a ((a, oe) :: pn)) (.Attribute e "index" pos) (tByIx C a cls d te) := by
  refine ⟨fun pins s σ H Q I h => ?_⟩
  refine attr_of hb (thn (he.run pins s σ H _ I h) fun u s1 hh => ?_)
  obtain ⟨x, H1, I1, rx, ex, ec, dd, v, ed, ea, q⟩ := hh
  subst ex
  obtain rfl : u = Value.ref a := rx
  subst ec
  subst ed
  obtain ⟨ha, _⟩ := I1.pin (a, oe) (List.mem_append_left _ List.mem_cons_self)
  obtain ⟨vs, hd⟩ := hf
  have hx : ObjOk X.prog X.w H1 s1.heap dd (.xd [(("index" : Str), v)]) := I1.hok dd _ ea
  obtain ⟨mA, hns, hr⟩ := hx
  obtain ⟨od, ho, hl⟩ := lookIn_ns hns
  have l : List.lookup ("index" : Str) [(("index" : Str), v)] = some v := by simp [List.lookup]
  obtain ⟨u, hu, ru⟩ := RelO.some_of (v := v) (o := mA "index") (by rw [← l]; exact hr "index")
  have J : PySem.W.InstAt s1.heap a oe C (some od) := ⟨ha, hz.1, by unfold PySem.W.notCls; rw [hd] <;> rfl, by rw [hz.2]; exact ho⟩
  exact HandSPX.exc_get I1.kIn J T.ga T.gg T.exC (PySem.W.findObj_own T.hdC T.noN rfl (by rw [hl, hu])) (handed_of ru) ⟨v, H1, I1.tok _, ru, q⟩
end
end L2

set_option maxHeartbeats 4000000
/-! isinstance of a caught error that has a dict; count of a list of flat things; a lambda's call in a try whose suite reads the state -/
namespace Ru
open PySem PySem.Spec PyProof.Rows L2 LamX
/-! ### isinstance(e, c) -/
/-- the error has no dict, or one that is tracked -/
def DictAt (d : Option Addr) (H : Hp) : Prop := d = none ∨ ∃ (dd : Addr) (fs : List (Str × V)), d = some dd ∧ H dd = some (.xd fs)
def rIsX (K : PySem.W.Frag) (a : Addr) (cls : Value) (d : Option Addr) : List V → Hp → VK → Prop := fun xs H Q =>
  ∃ (D : Addr) (c : V) (cv : Value) (b : Bool), cls = .ref D ∧ ExcC K D ∧ DictAt d H ∧ xs = [.ref a, c] ∧ (∀ u, RelV c u → u = cv) ∧ PySem.W.kitOne K (.ref D) cv = some b ∧ Q (.bl b) H
theorem call_isX {X : Cx} {a : Addr} {cls : Value} {d : Option Addr} {oe : Obj} {pn : List (Addr × Obj)} (hz : Zc cls d oe) (hf : ∃ vs, oe.data = .fields vs) : CallR (X.suite a ((a, oe) :: pn)) (.builtin "isinstance") (rIsX X.K a cls d) := by
  intro pins s σ H xs us Q I r h
  obtain ⟨D, c, cv, b, rfl, C, hd, rfl, hcv, e, q⟩ := h
  obtain ⟨v1, us', rfl, r1, rr⟩ : ∃ v1 us', us = v1 :: us' ∧ RelV (.ref a) v1 ∧ Vals [c] us' := by cases r with | cons p q => exact ⟨_, _, rfl, p, q⟩
  obtain ⟨v2, rfl, r2⟩ := rr.one
  obtain rfl : v1 = Value.ref a := r1
  obtain rfl := hcv _ r2
  have hp := (I.pin (a, oe) (List.mem_append_left _ List.mem_cons_self)).1
  obtain ⟨vs, hv⟩ := hf
  obtain ⟨cd, hcd, _⟩ := PySem.W.any_some C.hd
  have hcl : (PySem.W.clsIn X.K D).isSome = true := by rw [hcd]; rfl
  have fin : ∀ od : Option Obj, PySem.W.InstAt s.heap a oe D od → wpAny (model X.prog X.w) (X.suite a ((a, oe) :: pn)).A (call (.builtin "isinstance") [.ref a, v2]) (EP (X.suite a ((a, oe) :: pn)) pins σ Q) (X.suite a ((a, oe) :: pn)).xe s := fun od J =>
    PySem.W.kia_one (PySem.W.kitx_exc (od := od) hcl C.hg C.hk C.hs C.ha C.hn C.ht C.hm) I.kIn J e (fun z => nomatch z) fun tk => ⟨.bl b, H, I.kept (t' := tk) fun _ _ z => z, rfl, q⟩
  rcases hd with rfl | ⟨dd, fs, rfl, hx⟩
  · exact fin none ⟨hp, hz.1, by unfold PySem.W.notCls; rw [hv] <;> rfl, by rw [hz.2]; trivial⟩
  · have ob : ObjOk X.prog X.w H s.heap dd (.xd fs) := I.hok dd _ hx
    obtain ⟨mA, hns, hr⟩ := ob
    obtain ⟨od, ho, hl⟩ := lookIn_ns hns
    exact fin (some od) ⟨hp, hz.1, by unfold PySem.W.notCls; rw [hv] <;> rfl, by rw [hz.2]; exact ho⟩
/-! ### xs.count(y) -/
def rCntF (K : PySem.W.Frag) : V → List V → Hp → VK → Prop := fun x xs H Q => ∃ (p : Addr) (ys : List V) (y : V), x = .ref p ∧ xs = [y] ∧ SqL K H p ys ∧ flatV y = true ∧ ys.all flatV = true ∧ Q (.int (ys.countP (fun z => eqV z y) : Nat)) H
theorem cnt_flat {y : V} : ∀ {ys : List V} {us : List Value}, Vals ys us → ys.all flatV = true → us.countP (eqU y) = ys.countP (fun z => eqV z y)
  | _, _, .nil, _ => rfl
  | _, _, .cons r rs, h => by
    simp only [List.all_cons, Bool.and_eq_true] at h
    rw [List.countP_cons, List.countP_cons, cnt_flat rs h.2, eqU_of r h.1]
theorem mt_countF {X : Cx} : MtR X "list.count" (rCntF X.K) := by
  intro pins s σ H x xs v us Q I rx rxs h
  obtain ⟨p, ys, y, rfl, rfl, hs, fy, fys, q⟩ := h
  obtain rfl : v = Value.ref p := rx
  obtain ⟨uy, rfl, ry⟩ := rxs.one
  obtain ⟨its, rv, ⟨⟨cls, dd, data, sl⟩, n, ho, hc, hdn, hd⟩, hlen⟩ := I.list hs
  obtain rfl : cls = .type "list" := hc
  obtain rfl : data = .seq its.toArray n := hd
  refine call_meets PySem.F.slot_list_count ⟨_, ho, rfl⟩ PySem.F.entry_list_count (PySem.F.args_list_count_2 _ _)
    (SeqAt.list_countAt p its.toArray n dd sl uy (eqU y)) ⟨ho, fun u hu => mem_eqAt ry fy rv fys u (by simpa using hu), ?_⟩
  refine ⟨.int (ys.countP (fun z => eqV z y) : Nat), H, I.tok _, ⟨s.toks, ?_⟩, q⟩
  rw [show its.toArray.toList = its by simp, cnt_flat rv fys]
/-! ### a lambda without parameters: made, handed to a def, called there in a try -/
section
variable {X : Cx} {pins : List (Addr × Obj)} {σ : L2.St} {H : Hp} {s : Shared}
/-- the call: what the try around takes may rest on the state at the call -/
def tAct (f c' : Addr) (q : Str) (tl : XK → Hp → VK → Prop) (W : WX) : TE := fun σz Hz Q =>
  σz[0]? = some (some (.ref f)) ∧ Hz c' = some (CodeO c' q) ∧ ∃ Ez : XK, (∀ cls d Hy, Ez cls d Hy → W cls d σz Hy) ∧ tl Ez Hz Q
theorem pe_call_lam {sg : Scope} {g f c' : Addr} {cdg pm ctv : Value} {Ng : List Str} {qg a : Str} {params : Arguments} {body : Expr} {scope : Scope} {k : Nat} {pn : List (Addr × Obj)} {xe : Value → Shared → Prop} {W : WX} {t : XK → TE} {pa pc : Pos}
    (I : Inv X pins σ H s) (L : LamS X.env.scope scope)
    (lam : s.heap.get? f = some (PySem.W.kla_obj "<lambda>" (X.env.qual ++ "<lambda>") params body scope (cloFrom X.env.cells scope.names []) pm c' ctv)) (nf : H f = none) (nfr : f ∉ frs X.stack)
    (bnd : bindArgs (PySem.W.kla_fn "<lambda>" (X.env.qual ++ "<lambda>") params body scope (cloFrom X.env.cells scope.names []) pm (.ref c') ctv) ⟨[], []⟩ = pure [])
    (tk : Takes ((cxOf C8.CX0 X.prog X.w X.K X.mg X.base Ng qg sg g cdg X.A X.stack s H C8.E0).tr pn xe) W) (hr : Room (k + 1) (X.A.deeper (envOfC qg sg s.heap.objs.size g cdg)))
    (hb : ∀ (A : Around) (outer : List Env) (sB : Shared) (HB : Hp) (Ez : XK), Room k (A.deeper (lamEnv X scope sB.heap.objs.size f c')) → PE (lamCx X A outer sB HB Ez scope f c') body (t Ez))
    (hN : Ng[0]? = some a) (hv : Vis sg a) (hd : (a == ("__debug__" : Str)) = false) (hcd : (a == ("__classdict__" : Str)) = false) :
    PE ((cxOf C8.CX0 X.prog X.w X.K X.mg X.base Ng qg sg g cdg X.A X.stack s H C8.E0).tr pn xe) (.Call (.Name a pa) [] [] pc) (tAct f c' (X.env.qual ++ "<lambda>") (fun Ez Hz Q => t Ez σ Hz Q) W) := by
  refine ⟨fun pz sz σz Hz Q Iz h => ?_⟩
  obtain ⟨hs, hc, Ez, hW, ht⟩ := h
  refine wpAny_Call_Name_kw (thn ((pe_var (pos := pa) (i := 0) hN hv hd hcd).run pz sz σz Hz (fun v Hy => v = .ref f ∧ Hy = Hz) Iz ⟨.ref f, hs, rfl, rfl⟩) fun u sy ⟨v, Hy, Iy, ry, qy⟩ => ?_)
  obtain ⟨rfl, rfl⟩ := qy
  obtain rfl : u = Value.ref f := ry
  have lamY := Iy.base.keep f _ lam nf nfr (fun z => nomatch (show f ∈ ([] : List Addr) from z))
  refine PySem.W.callWith_F0 ⟨_, _, _, _, lamY⟩ ?_
  have un : Un (frs X.stack) [] H Hy s.heap sy.heap := Iy.base
  obtain ⟨⟨oc, vs, tc, hoc, hdc, hvc⟩, _, _⟩ := Iy.hok c' _ hc
  have run : codeAny (model X.prog X.w) (X.A.deeper (envOfC qg sg s.heap.objs.size g cdg)) (.call (.ref f) ⟨[], []⟩)
      (CR (L2.CX X.prog X.w) (envOfC qg sg s.heap.objs.size g cdg :: X.stack) X.prog X.w Hy sy Q Ez) sy := by
    refine PySem.W.kla_callFunE hr.depth lamY rfl L.co L.gen rfl ⟨c', oc, vs, tc, rfl, hoc, hdc, hvc⟩ ?_
    rw [bnd]
    have own1 : ∀ y ∈ scope.names, y.2 ≠ NameKind.cell := fun y hy => (L.own y hy).2
    refine wpAny_pure (wpAny_newFunctionEnv own1 (fun y hy => absurd hy (by simp)) (fun hB nsB sb => ⟨Iy.nolimit.fresh _ sb, ?_⟩) L.kind)
    show codeAny _ _ (.expr body (lamEnv X scope sy.heap.objs.size f c')) _ _
    have kp : ∀ b o, sy.heap.get? b = some o → hB.get? b = some o := fun b o e => sb.extBut b o (Nat.ne_of_lt (Heap.lt_size e)) (Heap.get?_push_of_some _ e)
    have J := lam_start2 (f := f) (c' := c') (E := Ez) (tk := sy.toks + ([] : List (Str × Value)).length) I L Iy.env0 hr.hd un nsB kp
    refine PySem.W.kla_codeExpr (wpAny_mono ((hb _ _ sy Hy Ez (hr.deeper _)).run [] _ _ Hy Q J ht) (fun v sx hq => ?_) fun e sx hq => hq)
    obtain ⟨vv, Hx, Jx, rv, q⟩ := hq
    exact ⟨vv, Hx, Jx.os, Jx.bare, Jx.base, Jx.hok, rv, q⟩
  refine wpAny_call (codeAny_mono run fun r sx hq => ?_)
  cases r with
  | error e => exact tk e sx (XE.of_call Iy (fun cls d Hx hE => hW cls d Hx hE) hq)
  | ok fl =>
    cases fl with
    | ret u => exact Iy.after hq
    | next => exact False.elim hq
    | brk => exact False.elim hq
    | cont => exact False.elim hq
end
/-- the def that calls what it got (its first parameter a); TT: what it makes of the lambda's reading -/
def Gives (X : Cx) (Ng : List Str) (x : Str) (sg : Scope) (g : Addr) (cdg : Value) (bg : List Stmt) (a q : Str) (TT : (XK → Hp → VK → Prop) → Hp → VK → Prop) : Prop :=
  ∀ (f c' : Addr) (s : Shared) (H : Hp) (Q : VK) (tl : XK → Hp → VK → Prop), Room 9 (X.A.deeper (envOfC x sg s.heap.objs.size g cdg)) →
    (∀ (W : WX) (pn : List (Addr × Obj)) (xe : Value → Shared → Prop) (pa pc : Pos), Takes ((cxOf C8.CX0 X.prog X.w X.K X.mg X.base Ng x sg g cdg X.A X.stack s H C8.E0).tr pn xe) W →
      PE ((cxOf C8.CX0 X.prog X.w X.K X.mg X.base Ng x sg g cdg X.A X.stack s H C8.E0).tr pn xe) (.Call (.Name a pa) [] [] pc) (tAct f c' q tl W)) →
    H c' = some (CodeO c' q) → TT tl H Q →
    ∃ t, PSs (cxOf C8.CX0 X.prog X.w X.K X.mg X.base Ng x sg g cdg X.A X.stack s H C8.E0) bg t ∧ t { nx := fun _ H' => Q .non H', rt := Q } (L2.start Ng [.ref f]) H
section
variable {X : Cx}
/-- x(lambda: body) -/
theorem pe_give {T : List (Addr × Str)} {TT : (XK → Hp → VK → Prop) → Hp → VK → Prop} {x a : Str} {g c P : Addr} {k : Nat} {pg : Arguments} {bg : List Stmt} {sg : Scope} {dV kV doc pm cdv ct oc : Value} {an od : Option Addr} {osl : Array (Option Value)} {Ng : List Str}
    {params : Arguments} {body : Expr} {scope : Scope} {t : XK → TE} {p lpos pos : Pos} (hg : Gl X x) (hm : X.mg x = some (.ref g)) (hk : PySem.W.keepIn X.K (.ref g) = true)
    (lk : X.K.lookup g = some ⟨oc, od, .func (PySem.W.fnOf x x pg bg sg dV kV doc pm an cdv ct), osl⟩) (hcg : PySem.W.codeIn X.K cdv x = true) (hbi : L2.Binds X.K (PySem.W.fnOf x x pg bg sg dV kV doc pm an cdv ct) [a] [])
    (Sg : FnScope Ng [a] sg) (hNg : Ng[0]? = some a) (hva : Vis sg a) (hG : Gives X Ng x sg g cdv bg a (X.env.qual ++ "<lambda>") TT)
    (TB : TabB X.base X.mg c P) (hcode : X.env.code = .ref c) (hmT : (P, X.env.qual ++ "<lambda>") ∈ T) (hu : ∀ p ∈ T, p.1 = P → p.2 = X.env.qual ++ "<lambda>") (hr : Room (k + 2) X.A) (h9 : 9 ≤ k + 1) (L : LamS X.env.scope scope) (hdef : defaultsOf params X.env = ([], []))
    (bnd : ∀ (q : Str) (cl : List (Str × Addr)) (pm cv ctv : Value), bindArgs (PySem.W.kla_fn "<lambda>" q params body scope cl pm cv ctv) ⟨[], []⟩ = pure [])
    (hb : ∀ (A : Around) (outer : List Env) (s : Shared) (H : Hp) (E : XK) (f c' : Addr), Room k (A.deeper (lamEnv X scope s.heap.objs.size f c')) → PE (lamCx X A outer s H E scope f c') body (t E))
    (hdb : (x == ("__debug__" : Str)) = false := by decide) (hd : (a == ("__debug__" : Str)) = false := by decide) (hcd : (a == ("__classdict__" : Str)) = false := by decide) :
    PE X (.Call (.Name x p) [.Lambda params body scope lpos] [] pos) (tLam T TT t) := by
  refine ⟨fun pins s σ H Q I h => ?_⟩
  obtain ⟨hT, go⟩ := h
  refine wpAny_Call_Name_kw (ld_glob I hg hm ?_ hdb)
  refine PySem.W.callWith_K (h₀ := X.base) I.ok.mod.kin hk ?_ (by rfl) (by rfl)
  show wpAny _ _ (spliced ((false, eval (.Lambda params body scope lpos) X.env) :: backTo pos (starEach [] X.env))) _ _ s
  refine Calls.spliced_cons (lam_make2 I TB hcode hmT hu hT hdef (L.has I.ok) fun f c' pm' ctv Hy sy Iy eN Ty lamY nf nfr hco => ?_)
  refine Calls.spliced_nil ⟨Iy.kIn, ?_⟩
  have run : codeAny (model X.prog X.w) X.A (.call (.ref g) ⟨[.ref f], []⟩) (CR C8.CX0 X.stack X.prog X.w Hy sy Q C8.E0) sy := by
    refine run_ofS (N := Ng) (ps := [a]) (us := [.ref f]) (vs := [.ref f]) lk hcg Sg hr Iy.env0 (hbi sy [.ref f] Iy.kIn rfl) (.cons rfl .nil) rfl fun hr' => ?_
    exact hG f c' sy Hy Q (fun E Hz Q' => t E σ Hz Q') (hr'.mono h9) (fun W pn xe pa pc tk => pe_call_lam Iy L lamY nf nfr (bnd _ _ _ _ _) tk hr' (fun A outer s H E hr2 => hb A outer s H E f c' hr2) hNg hva hd hcd) hco (go Hy eN Ty)
  refine wpAny_call (codeAny_mono run fun r sx hq => ?_)
  cases r with
  | error e => exact (show False from hq).elim
  | ok fl =>
    cases fl with
    | ret u => exact Iy.after hq
    | next => exact False.elim hq
    | brk => exact False.elim hq
    | cont => exact False.elim hq
end
end Ru

set_option maxHeartbeats 4000000
/-! a lambda (no parameter, or one with a default) as a value: made, kept in a list, called by a def that gets it, also from a comprehension -/
namespace Ru
open PySem PySem.Spec PyProof.Rows L2 LamX
theorem sameU {H : Hp} {p : Addr} {o : HO} (h : H p = none) : Same H (upd H p o) := fun b u e => by rw [upd_ne (ne_of_none e h)]; exact e
/-- the lambda that stands at f -/
def LamO (q : Str) (params : Arguments) (body : Expr) (scope : Scope) (cl : List (Str × Addr)) (dV : Value) (c' f : Addr) : HO :=
  .ext fun h => ∃ doc pm ctv : Value, h.get? f = some (PySem.W.kdv_obj "<lambda>" q params (.expr body) scope cl dV doc pm c' ctv)
/-- its defaults -/
def DflH (H : Hp) (dV : Value) (ds : List V) : Prop := (ds = [] ∧ dV = .none) ∨ (ds ≠ [] ∧ ∃ T : Addr, dV = .ref T ∧ H T = some (.tup ds))
def LamAt (X : Cx) (H : Hp) (f : Addr) (params : Arguments) (body : Expr) (scope : Scope) (ds : List V) : Prop :=
  ∃ (c' : Addr) (dV : Value), H f = some (LamO (X.env.qual ++ "<lambda>") params body scope (cloFrom X.env.cells scope.names []) dV c' f) ∧ H c' = some (CodeO c' (X.env.qual ++ "<lambda>")) ∧ DflH H dV ds
theorem lamO_ne {q : Str} {params : Arguments} {body : Expr} {scope : Scope} {cl : List (Str × Addr)} {dV : Value} {c' f : Addr} (ps : Array Value) : LamO q params body scope cl dV c' f ≠ .tbl ps := fun z => by
  unfold LamO at z
  cases z
theorem LamAt.ext {X : Cx} {H H' : Hp} {f : Addr} {params : Arguments} {body : Expr} {scope : Scope} {ds : List V} (h : LamAt X H f params body scope ds) (e : ExtN H H') : LamAt X H' f params body scope ds := by
  obtain ⟨c', dV, h1, h2, h3⟩ := h
  refine ⟨c', dV, e _ _ h1 lamO_ne, e _ _ h2 codeO_ne, ?_⟩
  rcases h3 with h3 | ⟨h0, T, h3, h4⟩
  · exact .inl h3
  · exact .inr ⟨h0, T, h3, e _ _ h4 fun ps z => nomatch z⟩
theorem LamAt.same {X : Cx} {H H' : Hp} {f : Addr} {params : Arguments} {body : Expr} {scope : Scope} {ds : List V} (h : LamAt X H f params body scope ds) (e : Same H H') : LamAt X H' f params body scope ds := h.ext (ExtN.of e)
/-! ### making -/
section
variable {X : Cx} {pins : List (Addr × Obj)} {σ : L2.St} {H : Hp} {s : Shared}
theorem lam_tail {T : List (Addr × Str)} {c P : Addr} {params : Arguments} {body : Expr} {scope : Scope} {pos : Pos} {E : Value → Shared → Prop} {Q : Value → Shared → Prop} {dV : Value} {ds : List V} {fl : Nat} (I : Inv X pins σ H s) (TB : TabB X.base X.mg c P) (hcode : X.env.code = .ref c)
    (hm : (P, X.env.qual ++ "<lambda>") ∈ T) (hu : ∀ p ∈ T, p.1 = P → p.2 = X.env.qual ++ "<lambda>") (hT : Tabs T H) (hfree : ∀ y ∈ scope.names, y.2 = .free → ∃ c, X.env.cells.lookup y.1 = some c) (hd : DflH H dV ds)
    (h : ∀ (f : Addr) (H1 : Hp) (s' : Shared), Inv X pins σ H1 s' → ExtN H H1 → Tabs T H1 → H f = none → LamAt X H1 f params body scope ds → Q (.ref f) s') :
    wpAny (model X.prog X.w) X.A (makeTail "<lambda>" (X.env.qual ++ "<lambda>") params (.expr body) scope X.env dV .none none pos fl) Q E s := by
  obtain ⟨ps, hP, ht, ha⟩ := hT _ hm
  have bP : s.heap.BuiltinsAt X.mg P := TB.bm.keeps I.bk
  have hP' : s.heap.get? P = some { cls := .none, data := .fields ps } := I.hok P _ hP
  -- the object is laid and tracked
  have fin : ∀ (H1 : Hp) (h' : Heap) (tk : Nat) (c' : Addr) (doc ctv : Value), Inv X pins σ H1 { s with heap := h', toks := tk } → ExtN H H1 → Tabs T H1 → s.heap.objs.size ≤ h'.objs.size → H1 c' = some (CodeO c' (X.env.qual ++ "<lambda>")) →
      Q (.ref h'.objs.size) { s with heap := h'.push (PySem.W.kdv_obj "<lambda>" (X.env.qual ++ "<lambda>") params (.expr body) scope (cloFrom X.env.cells scope.names []) dV doc ((X.mg "__name__").getD .none) c' ctv), toks := tk } := fun H1 h' tk c' doc ctv I1 eN T1 hz hc => by
    have hf1 : H1 h'.objs.size = none := I1.hok.fresh (Nat.le_refl _)
    have sm : Same H1 (upd H1 h'.objs.size (LamO (X.env.qual ++ "<lambda>") params body scope (cloFrom X.env.cells scope.names []) dV c' h'.objs.size)) := sameU hf1
    have I2 := I1.laid (a := h'.objs.size) (o := LamO (X.env.qual ++ "<lambda>") params body scope (cloFrom X.env.cells scope.names []) dV c' h'.objs.size) (t' := tk)
      (h' := h'.push (PySem.W.kdv_obj "<lambda>" (X.env.qual ++ "<lambda>") params (.expr body) scope (cloFrom X.env.cells scope.names []) dV doc ((X.mg "__name__").getD .none) c' ctv))
      (fun b o e => Heap.get?_push_of_some _ e) (Nat.le_refl _) ⟨⟨doc, _, ctv, Heap.get?_push_size _ rfl⟩, ⟨_, Heap.get?_push_size _ rfl⟩, fun h1 h2 ⟨a, b, c, e⟩ st => ⟨a, b, c, st _ e⟩⟩
    refine h h'.objs.size _ _ I2 (eN.trans (ExtN.of sm)) (T1.ext sm) (I.hok.fresh hz) ⟨c', dV, upd_same, sm _ _ hc, ?_⟩
    rcases hd with z | ⟨z0, Td, z1, z2⟩
    · exact .inl z
    · exact .inr ⟨z0, Td, z1, sm _ _ (eN _ _ z2 fun ps z => nomatch z)⟩
  cases hc : codeAmong pos ps.toList with
  | none =>
    refine PySem.W.kdv_makeTail (mg := X.mg) (c := c) (P := P) (ps := ps) (closure_ok hfree) I.ok.glob (I.mod.glob.keeps I.bk) hcode (TB.code.keeps I.bk) hP' ht hc TB.gP bP fun c' ctv doc h' tk hx hge hlt hrec htb => ?_
    obtain ⟨c2, oc, vs, t, e2, hoc, hdd, hv⟩ := hrec
    cases e2
    have hsz : s.heap.objs.size ≤ h'.objs.size := Nat.le_trans hge (Nat.le_of_lt hlt)
    have nC : H c' = none := I.hok.fresh hge
    have I1 := inv_table (t' := tk) (more := #[rawInt pos.line, rawInt pos.col, .ref c']) (h' := h') I hP (fun b o hb e => hx b o hb e) htb hge ⟨oc, vs, t, hoc, hdd, hv⟩
    have hE : ExtN H (upd (upd H P (.tbl (ps ++ #[rawInt pos.line, rawInt pos.col, .ref c']))) c' (CodeO c' (X.env.qual ++ "<lambda>"))) := fun b o e n => by
      rw [upd_ne (ne_of_none e nC), upd_ne (fun z => n ps (Option.some.inj (e.symm.trans (by rw [z]; exact hP))))]
      exact e
    have eL : (ps ++ #[rawInt pos.line, rawInt pos.col, .ref c']).toList = ps.toList ++ [rawInt pos.line, rawInt pos.col, .ref c'] := by simp
    refine fin _ h' tk c' doc ctv I1 hE (fun p hp => ?_) hsz upd_same
    by_cases hb : p.1 = P
    · rw [hu p hp hb, hb]
      refine ⟨_, by rw [upd_ne (ne_of_none hP nC), upd_same], by rw [eL]; exact PySem.TriplesOk_snoc _ _ _ _ ht, fun p' cv hcv => ?_⟩
      rw [eL] at hcv
      rcases among_app _ ht hcv with z | z
      · obtain ⟨c0, e1, e2⟩ := ha p' cv z
        exact ⟨c0, e1, hE _ _ e2 codeO_ne⟩
      · exact ⟨c', z, upd_same⟩
    · obtain ⟨ps', a1, a2, a3⟩ := hT p hp
      refine ⟨ps', by rw [upd_ne (ne_of_none a1 nC), upd_ne hb]; exact a1, a2, fun p' cv hcv => ?_⟩
      obtain ⟨c0, e1, e2⟩ := a3 p' cv hcv
      exact ⟨c0, e1, hE _ _ e2 codeO_ne⟩
  | some cv =>
    obtain ⟨c', e, hco⟩ := ha pos cv hc
    subst e
    refine PySem.W.kdv_makeTailHit (mg := X.mg) (c := c) (P := P) (ps := ps) (closure_ok hfree) I.ok.glob (I.mod.glob.keeps I.bk) hcode (TB.code.keeps I.bk) hP' ht hc bP fun ctv doc h' tk hx hsz => ?_
    exact fin H h' tk c' doc ctv (I.kept fun b o e => hx b o e) (ExtN.refl H) hT hsz hco
end
/-- a lambda's reading as a value -/
def tLamV (T : List (Addr × Str)) (X : Cx) (params : Arguments) (body : Expr) (scope : Scope) (ds : List V) : TE := fun _ H Q =>
  Tabs T H ∧ ∀ (f : Addr) (H1 : Hp), ExtN H H1 → Tabs T H1 → H f = none → LamAt X H1 f params body scope ds → Q (.ref f) H1
/-- captured names and globals; its own parameters are no names of the def -/
structure LamS2 (N : List Str) (sc scope : Scope) : Prop where
  kind : scope.kind = .function
  co : scope.isCoroutine = false
  gen : scope.isGenerator = false
  own : ∀ y ∈ scope.names, y.2 ≠ .cell ∧ (y.2 = .local → y.1 ∉ N)
  free : ∀ y ∈ scope.names, y.2 = .free → sc.names.lookup y.1 = some .cell ∨ sc.names.lookup y.1 = some .free
def lamSB2 (N : List Str) (sc scope : Scope) : Bool :=
  decide (scope.kind = .function) && !scope.isCoroutine && !scope.isGenerator && scope.names.all fun y => !decide (y.2 = .cell) && (!decide (y.2 = .local) || decide (y.1 ∉ N)) && (!decide (y.2 = .free) || decide (sc.names.lookup y.1 = some .cell) || decide (sc.names.lookup y.1 = some .free))
theorem lamS2_by {N : List Str} {sc scope : Scope} (h : lamSB2 N sc scope = true) : LamS2 N sc scope := by
  unfold lamSB2 at h
  simp only [Bool.and_eq_true, Bool.or_eq_true, Bool.not_eq_true', decide_eq_true_eq, decide_eq_false_iff_not, List.all_eq_true] at h
  obtain ⟨⟨⟨h1, h2⟩, h3⟩, h4⟩ := h
  refine ⟨h1, h2, h3, fun y hy => ⟨(h4 y hy).1.1, fun e => ?_⟩, fun y hy e => ?_⟩
  · rcases (h4 y hy).1.2 with z | z
    · exact absurd e z
    · exact z
  · rcases (h4 y hy).2 with (z | z) | z
    · exact absurd e z
    · exact .inl z
    · exact .inr z
theorem LamS2.has {X : Cx} {scope : Scope} (L : LamS2 X.N X.env.scope scope) (hs : ∀ x, (X.env.kindOf x = some .cell ∨ X.env.kindOf x = some .free) → ∃ c, X.env.cells.lookup x = some c) : ∀ y ∈ scope.names, y.2 = .free → ∃ c, X.env.cells.lookup y.1 = some c := fun y hy e => by
  rcases L.free y hy e with k | k
  · exact hs _ (.inl k)
  · exact hs _ (.inr k)
section
variable {X : Cx}
theorem pe_lam0 {T : List (Addr × Str)} {c P : Addr} {params : Arguments} {body : Expr} {scope : Scope} {pos : Pos} (TB : TabB X.base X.mg c P) (hcode : X.env.code = .ref c) (hm : (P, X.env.qual ++ "<lambda>") ∈ T) (hu : ∀ p ∈ T, p.1 = P → p.2 = X.env.qual ++ "<lambda>")
    (L : LamS2 X.N X.env.scope scope) (hdef : defaultsOf params X.env = ([], [])) : PE X (.Lambda params body scope pos) (tLamV T X params body scope []) := by
  refine ⟨fun pins s σ H Q I h => ?_⟩
  obtain ⟨hT, h⟩ := h
  refine PySem.W.kla_eval hdef ?_
  rw [makeFunction_eq]
  simp only [List.zip_nil_right, List.filterMap_nil, List.isEmpty_nil, if_true, pure_bind]
  exact lam_tail I TB hcode hm hu hT (L.has I.ok.has) (.inl ⟨rfl, rfl⟩) fun f H1 s' I1 eN T1 hf la => ⟨.ref f, H1, I1, rfl, h f H1 eN T1 hf la⟩
theorem pe_lam1 {T : List (Addr × Str)} {c P : Addr} {params : Arguments} {body : Expr} {scope : Scope} {pos : Pos} {e : Expr} {d : V} (TB : TabB X.base X.mg c P) (hcode : X.env.code = .ref c) (hm : (P, X.env.qual ++ "<lambda>") ∈ T) (hu : ∀ p ∈ T, p.1 = P → p.2 = X.env.qual ++ "<lambda>")
    (L : LamS2 X.N X.env.scope scope) (hd : params.defaults = [e]) (hk : params.kw_defaults = []) (he : PE X e (tC d)) : PE X (.Lambda params body scope pos) (tLamV T X params body scope [d]) := by
  refine ⟨fun pins s σ H Q I h => ?_⟩
  obtain ⟨hT, h⟩ := h
  refine PySem.W.kdv_lam (by rw [hd]; rfl) hk ?_
  rw [hd]
  refine PySem.W.kdv_all1 (thn (he.run pins s σ H (fun v H1 => v = d ∧ H1 = H) I ⟨rfl, rfl⟩) fun u s1 ⟨v, H1, I1, r1, q1⟩ => PySem.W.kdv_all0 ?_)
  obtain ⟨rfl, rfl⟩ := q1
  rw [makeFunction_eq]
  simp only [List.zip_nil_right, List.filterMap_nil, List.isEmpty_nil, if_true, pure_bind, List.isEmpty_cons, Bool.false_eq_true, if_false]
  refine wpAny_bind (wpAny_newTextTuple ?_)
  have hf1 : H1 s1.heap.objs.size = none := I1.hok.fresh (Nat.le_refl _)
  have sm : Same H1 (upd H1 s1.heap.objs.size (.tup [v])) := sameU hf1
  have I2 : Inv X pins σ (upd H1 s1.heap.objs.size (.tup [v])) { s1 with heap := s1.heap.push { cls := .type "tuple", data := .seq [u].toArray } } :=
    I1.laid (t' := s1.toks) (fun b o e => Heap.get?_push_of_some _ e) (Nat.le_refl _) ⟨by show 1 ≤ sizeLine; decide, [u], .cons r1 .nil, _, Heap.get?_push_size _ rfl, rfl, _, rfl⟩
  refine lam_tail I2 TB hcode hm hu (hT.ext sm) (L.has I.ok.has) (.inr ⟨List.cons_ne_nil _ _, _, rfl, upd_same⟩) fun f H2 s' J eN T2 hf la => ⟨.ref f, H2, J, rfl, h f H2 ((ExtN.of sm).trans eN) T2 ?_ la⟩
  exact sm.free hf
end
/-! ### the names a lambda captures -/
structure CellsAt (X : Cx) (σ : L2.St) (H : Hp) (h : Heap) : Prop where
  inj : ∀ x y c, X.env.cells.lookup x = some c → X.env.cells.lookup y = some c → x = y
  has : ∀ x, (X.env.kindOf x = some .cell ∨ X.env.kindOf x = some .free) → ∃ c, X.env.cells.lookup x = some c
  cell : ∀ x c, X.env.cells.lookup x = some c → (∃ v, h.IsCell c v) ∧ H c = none
  val : ∀ (i : Nat) (x : Str) (v : V), X.N[i]? = some x → σ[i]? = some (some v) → (X.env.scope.names.lookup x = some .cell ∨ X.env.scope.names.lookup x = some .free) → ∃ u c, RelV v u ∧ X.env.cells.lookup x = some c ∧ h.IsCell c (some u)
  len : σ.length = X.N.length
theorem CellsAt.of {X : Cx} {pins : List (Addr × Obj)} {σ : L2.St} {H : Hp} {s : Shared} (I : Inv X pins σ H s) : CellsAt X σ H s.heap := by
  refine ⟨I.ok.inj, I.ok.has, fun x c e => ⟨I.cell x c e, I.freeC x c e⟩, fun i x v e1 e2 k => ?_, I.len⟩
  obtain ⟨m, hn, hl⟩ := I.loc
  obtain ⟨u, r, l⟩ := hl i x v e1 e2 (k.elim (fun z => .inr (.inl z)) fun z => .inr (.inr z))
  rcases l with ⟨k', _⟩ | ⟨_, c, e', z⟩
  · have k' : X.env.scope.names.lookup x = some .local := k'
    rcases k with k | k <;> rw [k] at k' <;> cases k'
  · exact ⟨u, c, r, e', z⟩
theorem CellsAt.un {X : Cx} {σ : L2.St} {H H' : Hp} {h h' : Heap} {fs ex : List Addr} (C : CellsAt X σ H h) (un : Un fs ex H H' h h') (hex : ∀ x c, X.env.cells.lookup x = some c → c ∉ ex) : CellsAt X σ H' h' := by
  have ck : ∀ x c v, X.env.cells.lookup x = some c → h.IsCell c v → h'.IsCell c v := fun x c v e ⟨o, ho, hd⟩ => by
    obtain ⟨sl, q⟩ := un.any ho (C.cell x c e).2 (hex x c e)
    exact ⟨_, q, hd⟩
  refine ⟨C.inj, C.has, fun x c e => ?_, fun i x v e1 e2 k => ?_, C.len⟩
  · obtain ⟨⟨v, z⟩, n⟩ := C.cell x c e
    refine ⟨⟨v, ck x c v e z⟩, ?_⟩
    obtain ⟨o, ho, _⟩ := z
    exact un.free c o ho n (hex x c e)
  · obtain ⟨u, c, r, e, z⟩ := C.val i x v e1 e2 k
    exact ⟨u, c, r, e, ck x c _ e z⟩
section
variable {X : Cx} {σ : L2.St} {HZ : Hp} {s1 : Shared}
theorem lam_start3 {A : Around} {outer : List Env} {E : XK} {scope : Scope} {f c' : Addr} {h₁ : Heap} {tk : Nat} {binds : List (Str × Value)} (C : CellsAt X σ HZ s1.heap) (L : LamS2 X.N X.env.scope scope) (e0 : Env0 X.prog X.w X.K X.mg X.base A outer s1 HZ) (hd : A.handled = none)
    (hns : h₁.Ns s1.heap.objs.size fun y => binds.reverse.lookup y) (kp : ∀ b o, s1.heap.get? b = some o → h₁.get? b = some o) :
    Inv (lamCx X A outer s1 HZ E scope f c') [] σ HZ { s1 with heap := h₁, toks := tk } := by
  have hfree := L.has C.has
  have cm : ∀ {y c}, (cloFrom X.env.cells scope.names []).lookup y = some c → X.env.cells.lookup y = some c := fun {y c} e => by
    rcases cloFrom_mem (PySem.mem_of_lookup e) with hm | ⟨h1, h2⟩
    · cases hm
    · obtain ⟨c1, hc⟩ := hfree _ h1 rfl
      have hc : X.env.cells.lookup y = some c1 := hc
      have e2 : c = c1 := by
        rw [h2, hc] <;> rfl
      rw [e2]
      exact hc
  have look : ∀ {y}, scope.names.lookup y = some .free → ∃ c, (cloFrom X.env.cells scope.names []).lookup y = some c := fun {y} hl => by
    have hy : (y, NameKind.free) ∈ scope.names := PySem.mem_of_lookup hl
    exact mem_lookup (cloFrom_has (cells := X.env.cells) (acc := []) hy)
  have cellK : ∀ {c : Addr} {v : Option Value}, s1.heap.IsCell c v → h₁.IsCell c v := fun {c v} ⟨o, ho, hd⟩ => ⟨_, kp _ _ ho, hd⟩
  have noA : ∀ b : Addr, b ∉ (lamCx X A outer s1 HZ E scope f c').ex := fun b z => absurd (show b ∈ ([] : List Addr) from z) (by simp)
  refine ⟨⟨e0.mod, L.kind, rfl, rfl, Nat.le_refl _, fun y z c e1 e2 => C.inj y z c (cm e1) (cm e2), fun y hy => ?_, fun y c z _ => ?_, fun _ => hd, Around.frames_deeper e0.frames, .inr ⟨rfl, rfl⟩, fun b z => absurd z (noA b), e0.bs, e0.bsz, fun b _ _ => noA b,
      fun b z => absurd z (noA b), e0.funs, e0.frf⟩,
    rfl, e0.bare, Un.kept kp, ⟨_, hns, fun i y v e1 e2 e3 => ?_⟩, fun y c e => ?_, e0.hok.fresh (Nat.le_refl _), fun y c e => ?_, fun q hq => absurd (show q ∈ ([] : List (Addr × Obj)) ++ [] from hq) (by simp), e0.hok.kept kp, C.len⟩
  · have hy : scope.names.lookup y = some .cell ∨ scope.names.lookup y = some .free := hy
    rcases hy with hy | hy
    · exact absurd rfl (L.own _ (PySem.mem_of_lookup hy)).1
    · exact look hy
  · have z : false = true := z
    cases z
  · have e3 : Vis scope y := e3
    rcases e3 with k | k | k
    · exact absurd (List.mem_of_getElem? e1) ((L.own _ (PySem.mem_of_lookup k)).2 rfl)
    · exact absurd rfl (L.own _ (PySem.mem_of_lookup k)).1
    · obtain ⟨w', c1, r, h1, z⟩ := C.val i y v e1 e2 (L.free _ (PySem.mem_of_lookup k) rfl)
      obtain ⟨c2, h2⟩ := look k
      refine ⟨w', r, .inr ⟨.inr k, c2, h2, ?_⟩⟩
      have c3 := cm h2
      rw [h1] at c3
      cases c3
      exact cellK z
  · obtain ⟨⟨w', z⟩, _⟩ := C.cell y c (cm e)
    exact ⟨w', cellK z⟩
  · exact (C.cell y c (cm e)).2
end
/-! ### calling -/
/-- what the call f() binds -/
def LamBnd (params : Arguments) (body : Expr) (scope : Scope) (ds : List V) : Prop :=
  ∀ (q : Str) (cl : List (Str × Addr)) (doc pm cv ctv dV : Value) (s : Shared), ((ds = [] ∧ dV = .none) ∨ (ds ≠ [] ∧ ∃ (T : Addr) (o : Obj) (its : List Value) (n : Nat), dV = .ref T ∧ s.heap.get? T = some o ∧ o.data = .seq its.toArray n ∧ Vals ds its)) →
    ∃ binds, BindsTo s (PySem.W.kdv_fn "<lambda>" q params (.expr body) scope cl dV doc pm cv ctv) ⟨[], []⟩ binds ∧ ∀ y ∈ binds, scope.names.lookup y.1 = some .local
theorem lamB0 {params : Arguments} {body : Expr} {scope : Scope} (h : ∀ (q : Str) (cl : List (Str × Addr)) (doc pm cv ctv : Value), bindArgs (PySem.W.kdv_fn "<lambda>" q params (.expr body) scope cl .none doc pm cv ctv) ⟨[], []⟩ = pure []) : LamBnd params body scope [] := by
  intro q cl doc pm cv ctv dV s hd
  rcases hd with ⟨_, rfl⟩ | ⟨e, _⟩
  · exact ⟨[], .of_eq (h _ _ _ _ _ _), fun y hy => by cases hy⟩
  · exact absurd rfl e
theorem lamB1 {params : Arguments} {body : Expr} {scope : Scope} {a : Str} {d : V} (hl : scope.names.lookup a = some .local)
    (h : ∀ (q : Str) (cl : List (Str × Addr)) (T : Addr) (doc pm cv ctv u : Value), ∃ k, bindArgs (PySem.W.kdv_fn "<lambda>" q params (.expr body) scope cl (.ref T) doc pm cv ctv) ⟨[], []⟩ = seqItems? (.ref T) >>= k ∧ k (some #[u]) = pure [(a, u)]) : LamBnd params body scope [d] := by
  intro q cl doc pm cv ctv dV s hd
  rcases hd with ⟨e, _⟩ | ⟨_, T, o, its, n, rfl, ho, hdd, r⟩
  · cases e
  · obtain ⟨u, rfl, _⟩ := r.one
    obtain ⟨k, h1, h2⟩ := h q cl T doc pm cv ctv u
    refine ⟨[(a, u)], .of_defaults rfl ho hdd h1 h2, fun y hy => ?_⟩
    rcases List.mem_singleton.mp hy with rfl
    exact hl
/-- what is known of a lambda's body -/
structure LamB (X : Cx) (k : Nat) (params : Arguments) (body : Expr) (scope : Scope) (ds : List V) (t : XK → TE) : Prop where
  L : LamS2 X.N X.env.scope scope
  bnd : LamBnd params body scope ds
  pe : ∀ (A : Around) (outer : List Env) (s : Shared) (H : Hp) (E : XK) (f c' : Addr), Room k (A.deeper (lamEnv X scope s.heap.objs.size f c')) → PE (lamCx X A outer s H E scope f c') body (t E)
end Ru

set_option maxHeartbeats 4000000
/-! calls of lambdas that are values: by a def that gets one; a comprehension whose element calls such a def -/
namespace Ru
open PySem PySem.Spec PyProof.Rows L2 LamX
/-- the call of the lambda at f -/
theorem lam_run {X : Cx} {A : Around} {outer : List Env} {s : Shared} {H : Hp} {σ : L2.St} {f : Addr} {params : Arguments} {body : Expr} {scope : Scope} {ds : List V} {t : XK → TE} {k : Nat} {E : XK} {Q : VK}
    (e0 : Env0 X.prog X.w X.K X.mg X.base A outer s H) (C : CellsAt X σ H s.heap) (la : LamAt X H f params body scope ds) (B : LamB X k params body scope ds t) (hr : Room (k + 1) A) (h : t E σ H Q) :
    codeAny (model X.prog X.w) A (.call (.ref f) ⟨[], []⟩) (CR (L2.CX X.prog X.w) outer X.prog X.w H s Q E) s := by
  obtain ⟨c', dV, hf, hc, hd⟩ := la
  obtain ⟨⟨doc, pm, ctv, lam⟩, _, _⟩ := e0.hok f _ hf
  obtain ⟨⟨oc, vs, tc, hoc, hdc, hvc⟩, _, _⟩ := e0.hok c' _ hc
  have lim : s.heap.NoLimit := e0.mod.nolimit.keeps fun b o e => (e0.bs b o e).1
  have hd' : (ds = [] ∧ dV = .none) ∨ (ds ≠ [] ∧ ∃ (T : Addr) (o : Obj) (its : List Value) (n : Nat), dV = .ref T ∧ s.heap.get? T = some o ∧ o.data = .seq its.toArray n ∧ Vals ds its) := by
    rcases hd with z | ⟨z0, T, z1, z2⟩
    · exact .inl z
    · obtain ⟨_, its, r, o, ho, _, n, hn⟩ := e0.hok T _ z2
      exact .inr ⟨z0, T, o, its, n, z1, ho, hn, r⟩
  obtain ⟨binds, hb, hloc⟩ := B.bnd (X.env.qual ++ "<lambda>") (cloFrom X.env.cells scope.names []) doc pm (.ref c') ctv dV s hd'
  refine PySem.W.kla_callFunE hr.depth lam rfl B.L.co B.L.gen rfl ⟨c', oc, vs, tc, rfl, hoc, hdc, hvc⟩ (hb _ _ _ _ ?_)
  refine wpAny_newFunctionEnv (fun y hy => (B.L.own y hy).1) hloc (fun hB nsB sb => ⟨lim.fresh _ sb, ?_⟩) B.L.kind
  show codeAny _ _ (.expr body (lamEnv X scope s.heap.objs.size f c')) _ _
  have kp : ∀ b o, s.heap.get? b = some o → hB.get? b = some o := fun b o e => sb.extBut b o (Nat.ne_of_lt (Heap.lt_size e)) (Heap.get?_push_of_some _ e)
  have J := lam_start3 (f := f) (c' := c') (E := E) (tk := s.toks + binds.length) C B.L e0 hr.hd nsB kp
  refine PySem.W.kla_codeExpr (wpAny_mono ((B.pe _ _ s H E f c' (hr.deeper _)).run [] _ _ H Q J h) (fun v sx hq => ?_) fun e sx hq => hq)
  obtain ⟨vv, Hx, Jx, rv, q⟩ := hq
  exact ⟨vv, Hx, Jx.os, Jx.bare, Jx.base, Jx.hok, rv, q⟩
/-- a() in the def that got f as its first parameter: what the try around takes may rest on the state at the call -/
def tAct2 (f : Addr) (H : Hp) (tl : XK → Hp → VK → Prop) (W : WX) : TE := fun σz Hz Q =>
  σz[0]? = some (some (.ref f)) ∧ Same H Hz ∧ ∃ Ez : XK, (∀ cls d Hy, Ez cls d Hy → W cls d σz Hy) ∧ tl Ez Hz Q
section
variable {X : Cx}
theorem pe_act2 {sg : Scope} {g : Addr} {cdg : Value} {Ng : List Str} {qg a : Str} {s : Shared} {H : Hp} {σ : L2.St} {f : Addr} {params : Arguments} {body : Expr} {scope : Scope} {ds : List V} {k : Nat} {pn : List (Addr × Obj)} {xe : Value → Shared → Prop} {W : WX} {t : XK → TE} {pa pc : Pos}
    (C : CellsAt X σ H s.heap) (la : LamAt X H f params body scope ds) (B : LamB X k params body scope ds t)
    (tk : Takes ((cxOf C8.CX0 X.prog X.w X.K X.mg X.base Ng qg sg g cdg X.A X.stack s H C8.E0).tr pn xe) W) (hr : Room (k + 1) (X.A.deeper (envOfC qg sg s.heap.objs.size g cdg)))
    (hN : Ng[0]? = some a) (hv : Vis sg a) (hd : (a == ("__debug__" : Str)) = false) (hcd : (a == ("__classdict__" : Str)) = false) :
    PE ((cxOf C8.CX0 X.prog X.w X.K X.mg X.base Ng qg sg g cdg X.A X.stack s H C8.E0).tr pn xe) (.Call (.Name a pa) [] [] pc) (tAct2 f H (fun Ez Hz Q => t Ez σ Hz Q) W) := by
  refine ⟨fun pz sz σz Hz Q Iz h => ?_⟩
  obtain ⟨hs, sm, Ez, hW, ht⟩ := h
  refine wpAny_Call_Name_kw (thn ((pe_var (pos := pa) (i := 0) hN hv hd hcd).run pz sz σz Hz (fun v Hy => v = .ref f ∧ Hy = Hz) Iz ⟨.ref f, hs, rfl, rfl⟩) fun u sy ⟨v, Hy, Iy, ry, qy⟩ => ?_)
  obtain ⟨rfl, rfl⟩ := qy
  obtain rfl : u = Value.ref f := ry
  have la' := la.same sm
  obtain ⟨c', dV, hf, hc, hdd⟩ := id la'
  obtain ⟨⟨doc, pm, ctv, lam⟩, _, _⟩ := Iy.hok f _ hf
  refine PySem.W.callWith_F0 ⟨_, _, _, _, lam⟩ ?_
  have un : Un (frs X.stack) [] H Hy s.heap sy.heap := Iy.base
  have run : codeAny (model X.prog X.w) (X.A.deeper (envOfC qg sg s.heap.objs.size g cdg)) (.call (.ref f) ⟨[], []⟩)
      (CR (L2.CX X.prog X.w) (envOfC qg sg s.heap.objs.size g cdg :: X.stack) X.prog X.w Hy sy Q Ez) sy :=
    lam_run (X := X) Iy.env0 (C.un un fun _ _ _ z => nomatch z) la' B hr ht
  refine wpAny_call (codeAny_mono run fun r sx hq => ?_)
  cases r with
  | error e => exact tk e sx (XE.of_call Iy (fun cls d Hx hE => hW cls d Hx hE) hq)
  | ok fl =>
    cases fl with
    | ret u => exact Iy.after hq
    | next => exact False.elim hq
    | brk => exact False.elim hq
    | cont => exact False.elim hq
/-- the def that calls what it got (its first parameter a); TT: what it makes of the lambda's reading -/
def Gives2 (X : Cx) (Ng : List Str) (x : Str) (sg : Scope) (g : Addr) (cdg : Value) (bg : List Stmt) (a : Str) (TT : (XK → Hp → VK → Prop) → Hp → VK → Prop) : Prop :=
  ∀ (f : Addr) (s : Shared) (H : Hp) (Q : VK) (tl : XK → Hp → VK → Prop), Room 9 (X.A.deeper (envOfC x sg s.heap.objs.size g cdg)) →
    (∀ (W : WX) (pn : List (Addr × Obj)) (xe : Value → Shared → Prop) (pa pc : Pos), Takes ((cxOf C8.CX0 X.prog X.w X.K X.mg X.base Ng x sg g cdg X.A X.stack s H C8.E0).tr pn xe) W →
      PE ((cxOf C8.CX0 X.prog X.w X.K X.mg X.base Ng x sg g cdg X.A X.stack s H C8.E0).tr pn xe) (.Call (.Name a pa) [] [] pc) (tAct2 f H tl W)) →
    TT tl H Q →
    ∃ t, PSs (cxOf C8.CX0 X.prog X.w X.K X.mg X.base Ng x sg g cdg X.A X.stack s H C8.E0) bg t ∧ t { nx := fun _ H' => Q .non H', rt := Q } (L2.start Ng [.ref f]) H
/-- such a def, as it stands behind the top -/
structure GiveF (X : Cx) (Ng : List Str) (x : Str) (sg : Scope) (g : Addr) (bg : List Stmt) (a : Str) (TT : (XK → Hp → VK → Prop) → Hp → VK → Prop) : Prop where
  hm : X.mg x = some (.ref g)
  hk : PySem.W.keepIn X.K (.ref g) = true
  ex : ∃ (pg : Arguments) (dV kV doc pm cdv ct oc : Value) (an od : Option Addr) (osl : Array (Option Value)), X.K.lookup g = some ⟨oc, od, .func (PySem.W.fnOf x x pg bg sg dV kV doc pm an cdv ct), osl⟩ ∧ PySem.W.codeIn X.K cdv x = true ∧
    L2.Binds X.K (PySem.W.fnOf x x pg bg sg dV kV doc pm an cdv ct) [a] [] ∧ Gives2 X Ng x sg g cdv bg a TT
  Sg : FnScope Ng [a] sg
  hN : Ng[0]? = some a
  hv : Vis sg a
  hd : (a == ("__debug__" : Str)) = false
  hcd : (a == ("__classdict__" : Str)) = false
theorem give_run {TT : (XK → Hp → VK → Prop) → Hp → VK → Prop} {x a : Str} {g : Addr} {k : Nat} {bg : List Stmt} {sg : Scope} {Ng : List Str} {params : Arguments} {body : Expr} {scope : Scope} {ds : List V} {t : XK → TE} {s : Shared} {H : Hp} {σ : L2.St} {f : Addr} {Q : VK}
    (G : GiveF X Ng x sg g bg a TT) (e0 : Env0 X.prog X.w X.K X.mg X.base X.A X.stack s H) (C : CellsAt X σ H s.heap) (hr : Room (k + 2) X.A) (h9 : 9 ≤ k + 1) (la : LamAt X H f params body scope ds) (B : LamB X k params body scope ds t)
    (h : TT (fun E H' Q' => t E σ H' Q') H Q) : codeAny (model X.prog X.w) X.A (.call (.ref g) ⟨[.ref f], []⟩) (CR C8.CX0 X.stack X.prog X.w H s Q C8.E0) s := by
  obtain ⟨pg, dV, kV, doc, pm, cdv, ct, oc, an, od, osl, lk, hcg, hbi, hG⟩ := G.ex
  have kin : X.K.In s.heap := e0.mod.kin.keeps fun b o e => (e0.bs b o e).1
  refine run_ofS (N := Ng) (ps := [a]) (us := [.ref f]) (vs := [.ref f]) lk hcg G.Sg hr e0 (hbi s [.ref f] kin rfl) (.cons rfl .nil) rfl fun hr' => ?_
  exact hG f s H Q (fun E H' Q' => t E σ H' Q') (hr'.mono h9) (fun W pn xe pa pc tk => pe_act2 C la B tk hr' G.hN G.hv G.hd G.hcd) h
/-- what a call of such a def asks: the value is a lambda of ours -/
def tGive (X : Cx) (k : Nat) (TT : (XK → Hp → VK → Prop) → Hp → VK → Prop) (ta : TA) (τ : L2.St → L2.St) : TE := fun σz H Q =>
  ta σz H fun vs H1 => ∃ (f : Addr) (params : Arguments) (body : Expr) (scope : Scope) (ds : List V) (t : XK → TE), vs = [.ref f] ∧ LamAt X H1 f params body scope ds ∧ LamB X k params body scope ds t ∧ TT (fun E H' Q' => t E (τ σz) H' Q') H1 Q
/-- x(e), e a lambda of the def that runs -/
theorem pe_give2 {TT : (XK → Hp → VK → Prop) → Hp → VK → Prop} {x a : Str} {g : Addr} {k : Nat} {bg : List Stmt} {sg : Scope} {Ng : List Str} {e : Expr} {ta : TA} {p pos : Pos} (G : GiveF X Ng x sg g bg a TT) (hg : Gl X x) (hr : Room (k + 2) X.A) (h9 : 9 ≤ k + 1) (ha : PA X [e] ta)
    (hdb : (x == ("__debug__" : Str)) = false := by decide) (he : starEach [e] X.env = (false, eval e X.env) :: starEach [] X.env := by rfl) (hpl : (backTo pos (starEach [] X.env)).any (·.1) = false := by rfl) :
    PE X (.Call (.Name x p) [e] [] pos) (tGive X k TT ta id) := by
  refine ⟨fun pins s σ H Q I h => ?_⟩
  refine wpAny_Call_Name_kw (ld_glob I hg G.hm ?_ hdb)
  refine PySem.W.callWith_K (h₀ := X.base) I.ok.mod.kin G.hk (thn (ha.run pos pins s σ H _ I h) fun us s1 ⟨vs, H1, I1, r, q⟩ => ⟨I1.kIn, ?_⟩) he hpl
  obtain ⟨f, params, body, scope, ds, t, rfl, la, B, q⟩ := q
  obtain ⟨u, rfl, ru⟩ := r.one
  obtain rfl : u = Value.ref f := ru
  refine wpAny_call (codeAny_mono (give_run G I1.env0 (.of I1) hr h9 la B q) fun r sx hq => ?_)
  cases r with
  | error e => exact (show False from hq).elim
  | ok fl =>
    cases fl with
    | ret u => exact I1.after hq
    | next => exact False.elim hq
    | brk => exact False.elim hq
    | cont => exact False.elim hq
/-- the same in a comprehension's block -/
theorem pe_give2B {TT : (XK → Hp → VK → Prop) → Hp → VK → Prop} {x a : Str} {g : Addr} {k : Nat} {bg : List Stmt} {sg : Scope} {Ng : List Str} {e : Expr} {ta : TA} {p pos : Pos} {pins0 : List (Addr × Obj)} {s0 : Shared} {H0 : Hp} {σ0 : L2.St} {bscope : Scope} {cenv : Env} {fp : List Addr}
    (I0 : Inv X pins0 σ0 H0 s0) (hfp : ∀ b ∈ fp, FpOk X pins0 H0 b) (G : GiveF X Ng x sg g bg a TT) (hg : Gl (X.blk s0 H0 bscope cenv fp) x) (hr : Room (k + 2) X.A) (h9 : 9 ≤ k + 1) (ha : PA (X.blk s0 H0 bscope cenv fp) [e] ta)
    (hdb : (x == ("__debug__" : Str)) = false := by decide) (he : starEach [e] cenv = (false, eval e cenv) :: starEach [] cenv := by rfl) (hpl : (backTo pos (starEach [] cenv)).any (·.1) = false := by rfl) :
    PE (X.blk s0 H0 bscope cenv fp) (.Call (.Name x p) [e] [] pos) (tGive X k TT ta fun _ => σ0) := by
  refine ⟨fun pins s σ H Q I h => ?_⟩
  refine wpAny_Call_Name_kw (ld_glob I hg G.hm ?_ hdb)
  refine PySem.W.callWith_K (h₀ := X.base) I.ok.mod.kin G.hk (thn (ha.run pos pins s σ H _ I h) fun us s1 ⟨vs, H1, I1, r, q⟩ => ⟨I1.kIn, ?_⟩) he hpl
  obtain ⟨f, params, body, scope, ds, t, rfl, la, B, q⟩ := q
  obtain ⟨u, rfl, ru⟩ := r.one
  obtain rfl : u = Value.ref f := ru
  have C : CellsAt X σ0 H1 s1.heap := (CellsAt.of I0).un (show Un (frs X.stack) fp H0 H1 s0.heap s1.heap from I1.base) fun y c e z => (hfp c z).2.2.2.2.1 y c e rfl
  have run : codeAny (model X.prog X.w) X.A (.call (.ref g) ⟨[.ref f], []⟩) (CR C8.CX0 X.stack X.prog X.w H1 s1 Q C8.E0) s1 := give_run (X := X) G I1.env0 C hr h9 la B q
  refine wpAny_call (codeAny_mono run fun r sx hq => ?_)
  cases r with
  | error e => exact (show False from hq).elim
  | ok fl =>
    cases fl with
    | ret u => exact I1.after hq
    | next => exact False.elim hq
    | brk => exact False.elim hq
    | cont => exact False.elim hq
/-- [elt for tg in iter if ..] where elt may rest on the state at the comprehension's start -/
theorem pe_lcI {elt tg iter : Expr} {ifs : List Expr} {scope : Scope} {own : List (Str × Nat)} {pos : Pos} {wi : TI} {g : TG} {tt : TT} {te : L2.St → TE} (hc : X.calm = true) (hN : X.N.Nodup) (hi : PI X tg iter wi) (ok : BlkOk X.N X.env.scope scope own)
    (hg : ∀ (s : Shared) (H : Hp) (C : Addr) (cl : List (Str × Addr)) (fp : List Addr), PG (X.blk s H scope (compEnvC scope cl C X.env) fp) tg g) (ht : ∀ (s : Shared) (H : Hp) (C : Addr) (cl : List (Str × Addr)) (fp : List Addr), PTs (X.blk s H scope (compEnvC scope cl C X.env) fp) ifs tt)
    (he : ∀ (pins : List (Addr × Obj)) (σ : L2.St) (s : Shared) (H : Hp) (C : Addr) (cl : List (Str × Addr)) (fp : List Addr), Inv X pins σ H s → (∀ b ∈ fp, FpOk X pins H b) → PE (X.blk s H scope (compEnvC scope cl C X.env) fp) elt (te σ)) (hs : ∀ x, foldedSetIterable iter X.env x = pure x := by intro _; rfl) :
    PE X (.ListComp elt [⟨tg, iter, ifs, 0⟩] scope pos) (fun σ H Q => tLc wi g tt (te σ) (own.map (·.2)) σ H Q) := by
  refine ⟨fun pins s σ H Q I h => ?_⟩
  rw [eval_ListComp]
  have hfree : ∀ y ∈ scope.names, y.2 = .free → ∃ c, X.env.cells.lookup y.1 = some c := fun y hy e => by
    rcases ok.free y hy e with k | k
    · exact I.ok.has _ (.inl k)
    · exact I.ok.has _ (.inr k)
  refine wpAny_comprehension_free (use := none) rfl hs (closure_ok hfree) ok.kind (fun y hy e => by rw [ok.uniq y hy, e])
    (thn (hi.run pins s σ H _ I h) fun xv s1 hx => thn hx fun itv s2 h2 => ?_)
  obtain ⟨it, fp, tn, J, H2, e, I2, T, st2, f2, q⟩ := h2
  subst e
  refine wpAny_newObj_type (newEnv_comp ?_) (by show 0 ≤ sizeLine; decide)
  generalize hD : s2.heap.objs.size = D
  have hDn : H2 D = none := I2.hok.fresh (Nat.le_of_eq hD)
  obtain ⟨W, ⟨m0, w0⟩, turn⟩ := q D hDn
  generalize hs3 : ({ s2 with heap := s2.heap.push { cls := .type "list", data := .seq ([] : List Value).toArray } } : Shared) = s3
  have I3 : Inv X pins σ (upd H2 D (.lst [])) s3 := by
    rw [← hs3]
    refine I2.laid (t' := s2.toks) (fun b o e => Heap.get?_push_of_some _ e) (Nat.le_of_eq hD) ⟨Nat.zero_le _, [], 0, .nil, ?_⟩
    rw [← hD]
    exact Heap.get?_push_size _ rfl
  have h3 : s3.heap = s2.heap.push { cls := .type "list", data := .seq ([] : List Value).toArray } := by rw [← hs3]
  have sz : ∀ b ∈ fp, b < s2.heap.objs.size := fun b hb => by
    obtain ⟨o, e, _⟩ := T.obj _ _ st2 b hb
    exact Heap.lt_size e
  have f3 : ∀ b ∈ fp, FpOk X pins (upd H2 D (.lst [])) b ∧ b < s3.heap.objs.size := fun b hb => by
    have hlt := sz b hb
    refine ⟨⟨?_, (f2 b hb).2⟩, by rw [h3, Heap.size_push]; exact Nat.lt_succ_of_lt hlt⟩
    rw [upd_ne (by rw [← hD]; exact Nat.ne_of_lt hlt)]
    exact (f2 b hb).1
  have st3 : tn 0 s3.heap := T.keep _ _ _ st2 fun b _ o e => by rw [h3]; exact Heap.get?_push_of_some _ e
  have I4 := block_start I3 ok hN f3
  have pg := hg s3 (upd H2 D (.lst [])) s3.heap.objs.size (cellsFrom (s3.heap.objs.size + 1) scope.names (cloFrom X.env.cells scope.names [])) fp
  have pt := ht s3 (upd H2 D (.lst [])) s3.heap.objs.size (cellsFrom (s3.heap.objs.size + 1) scope.names (cloFrom X.env.cells scope.names [])) fp
  have pe := he pins σ s3 (upd H2 D (.lst [])) s3.heap.objs.size (cellsFrom (s3.heap.objs.size + 1) scope.names (cloFrom X.env.cells scope.names [])) fp I3 fun b hb => (f3 b hb).1
  show codeAny _ _ (.compStart (.ListComp elt [⟨tg, iter, ifs, 0⟩] scope pos) 0 (.ref it) (.ref D) (compEnvC scope (cellsFrom (s3.heap.objs.size + 1) scope.names (cloFrom X.env.cells scope.names [])) s3.heap.objs.size X.env)) (compPost (model X.prog X.w) X.A X.xe none (EP X pins σ Q) (.ref D) s3.heap.objs.size) { s3 with heap := pushCells (s3.heap.push { cls := .type "dict", data := .dict #[] }) scope.names }
  have nfp : ∀ b ∈ fp, (upd H2 D (.lst [])) b = none := fun b hb => (f3 b hb).1.1
  generalize hce : compEnvC scope (cellsFrom (s3.heap.objs.size + 1) scope.names (cloFrom X.env.cells scope.names [])) s3.heap.objs.size X.env = ce at I4 pg pt pe ⊢
  have cL : ce.locals = s3.heap.objs.size := by subst hce; rfl
  generalize hH3 : upd H2 D (.lst []) = H3 at I3 I4 pg pt pe w0 nfp f3
  generalize hs4 : ({ s3 with heap := pushCells (s3.heap.push { cls := .type "dict", data := .dict #[] }) scope.names } : Shared) = s4 at I4 ⊢
  have st4 : tn 0 s4.heap := T.keep _ _ _ st3 fun b _ o e => by rw [← hs4]; exact pushCells_keeps _ _ _ _ (Heap.get?_push_of_some _ e)
  have stat : ∀ {σ' : L2.St} {H' : Hp} {s' : Shared}, Inv (X.blk s3 H3 scope ce fp) [] σ' H' s' → (∀ b ∈ fp, H' b = none) → ∀ b ∈ fp, FpOk (X.blk s3 H3 scope ce fp) [] H' b := fun {σ' H' s'} I' hn b hb =>
    ⟨hn b hb, (I'.ok.exf b hb).1, I'.ok.exfs b hb, .inl hb, fun x c e => (I'.ok.exf b hb).2 x c e, fun p hp => absurd (show p ∈ ([] : List (Addr × Obj)) ++ [] from hp) (by simp)⟩
  have loop : codeAny (model X.prog X.w) X.A (.compLoop (.ListComp elt [⟨tg, iter, ifs, 0⟩] scope pos) 0 (.ref it) (.ref D) ce) (compPost (model X.prog X.w) X.A X.xe none (EP X pins σ Q) (.ref D) s3.heap.objs.size) s4 := by
    refine compLoop_any (fun n s' => ∃ i H', Inv (X.blk s3 H3 scope ce fp) [] (wipe σ (own.map (·.2))) H' s' ∧ tn i s'.heap ∧ (∀ b ∈ fp, H' b = none) ∧ W i n H') ?_ m0 ⟨0, H3, I4, st4, nfp, w0⟩
    rintro n s5 ⟨i, H5, I5, st5, n5, w5⟩
    rcases turn i n H5 w5 with ⟨stop, qq⟩ | ⟨go, Nx, hNx, step⟩
    · have td := T.done (X.blk s3 H3 scope ce fp) rfl rfl rfl hc i [] s5 _ H5 (fun _ _ => False) I5 (stat I5 n5) st5 stop
      refine thnF td fun r s6 ⟨hr, I6⟩ => ?_
      subst hr
      have I7 : Inv X pins σ H5 s6 := I3.call' (ch := fp) I6.os I6.base I6.hok I6.bare fun b hb => ⟨(f3 b hb).1.2.2.2.1, (f3 b hb).1.2.1, (f3 b hb).1.2.2.2.2.1, (f3 b hb).1.2.2.2.2.2⟩
      have nC : H5 s3.heap.objs.size = none := by
        have z : H5 ce.locals = none := I6.free
        rw [cL] at z
        exact z
      obtain ⟨m, hn, _⟩ := I6.loc
      have hn : s6.heap.Ns ce.locals m := hn
      rw [cL] at hn
      refine ⟨m, hn, fun h'' sb => ?_⟩
      obtain ⟨f0, f1, f2, f3, f4, f5⟩ := I3.fpOk (Nat.le_refl _) nC
      exact ⟨.ref D, H5, I7.turned (t' := s6.toks) (fun b o hb e => (sb.2 b hb).trans e) f0 f1 f3 f4 f5, rfl, qq⟩
    · have ti := T.item (X.blk s3 H3 scope ce fp) rfl rfl rfl hc i [] s5 _ H5 (fun _ _ => False) I5 (stat I5 n5) st5 go
      refine thnF ti fun r s6 ⟨u, hr, h6⟩ => ?_
      subst hr
      refine thnF h6 fun _ s7 ⟨x, H7, I7, r7, y7, st7, n7⟩ => ?_
      have I7' := I7.pinned (stat I7 n7) (T.obj _ _ st7)
      refine thnF (pg.run _ s7 _ H7 x u _ I7' r7 (step x H7 y7)) fun _ s8 ⟨σ8, H8, I8, hw8, q8⟩ => ?_
      refine thnF (pt.run _ s8 σ8 H8 _ I8 q8) fun b s9 ⟨H9, I9, q9⟩ => ?_
      have fin : ∀ {s' : Shared} {H' : Hp}, Inv (X.blk s3 H3 scope ce fp) ([] ++ pinsAt fp s7.heap) σ8 H' s' → Nx H' → ∃ m, m < n ∧ ∃ i H', Inv (X.blk s3 H3 scope ce fp) [] (wipe σ (own.map (·.2))) H' s' ∧ tn i s'.heap ∧ (∀ b ∈ fp, H' b = none) ∧ W i m H' := fun {s' H'} I' nx => by
        obtain ⟨m', hm, w'⟩ := hNx H' nx
        have pin' : ∀ b ∈ fp, ∀ o, s7.heap.get? b = some o → s'.heap.get? b = some o ∧ H' b = none := fun b hb o e =>
          let z := I'.pin (b, o) (List.mem_append_right _ (List.mem_append_right _ (mem_pinsAt hb e)))
          ⟨z.1, z.2.1⟩
        have hl : (wipe σ (own.map (·.2))).length = σ8.length := by rw [← hw8, wipe_length]
        refine ⟨m', hm, i + 1, H', (I'.unpinned (pins := [])).weak hl (fun j v e => ?_), T.keep _ _ _ st7 fun b hb o e => (pin' b hb o e).1, fun b hb => ?_, w'⟩
        · rw [← hw8] at e
          exact (wipe_some e).1
        · obtain ⟨o, e, _⟩ := T.obj _ _ st7 b hb
          exact (pin' b hb o e).2
      cases b with
      | false =>
        simp only [Bool.false_eq_true, if_false] at q9 ⊢
        exact fin I9 q9
      | true =>
        simp only [if_true] at q9 ⊢
        refine thnF (pe.run _ s9 σ8 H9 _ I9 q9) fun z s10 ⟨yv, H10, I10, r10, acc, hD10, hz10, nx⟩ => ?_
        exact app_ok (X := X.blk s3 H3 scope ce fp) I10 hD10 hz10 r10 fun s11 I11 => fin I11 nx
  exact codeAny_compStart_list loop (T.self X.A 0 _ _ _ st4 loop)
end
end Ru

set_option maxHeartbeats 4000000
/-! a row of lambdas, each told by a def: [f(c) for c in works]; lists of tuples compared -/
namespace Ru
open PySem PySem.Spec PyProof.Rows L2 LamX
section
variable {X : Cx} {k i j : Nat} {TT : (XK → Hp → VK → Prop) → Hp → VK → Prop} {σ : L2.St} {H H0 H1 : Hp} {f : Addr} {xs : List V} {Q : VK}
/-- the lambda at f, told: a tuple of xs -/
def Work (X : Cx) (k : Nat) (TT : (XK → Hp → VK → Prop) → Hp → VK → Prop) (σ : L2.St) (H0 : Hp) (f : Addr) (xs : List V) : Prop :=
  ∃ (params : Arguments) (body : Expr) (scope : Scope) (ds : List V) (t : XK → TE), LamAt X H0 f params body scope ds ∧ LamB X k params body scope ds t ∧
    ∀ (H' : Hp) (Q : VK), Same H0 H' → (∀ p H'', Same H' H'' → H'' p = some (.tup xs) → Q (.ref p) H'') → TT (fun E H' Q' => t E σ H' Q') H' Q
theorem Work.same (w : Work X k TT σ H0 f xs) (s : Same H0 H1) : Work X k TT σ H1 f xs := by
  obtain ⟨pa, bo, sc, ds, t, la, lb, go⟩ := w
  exact ⟨pa, bo, sc, ds, t, la.same s, lb, fun H' Q s' => go H' Q (s.trans s')⟩
/-- a list of tuples -/
def DL (H : Hp) (D : Addr) (rs : List (List V)) : Prop := ∃ ps : List Addr, H D = some (.lst (ps.map V.ref)) ∧ ps.length = rs.length ∧ ∀ (m : Nat) (p : Addr) (r : List V), ps[m]? = some p → rs[m]? = some r → H p = some (.tup r)
theorem DL.same {D : Addr} {rs : List (List V)} (h : DL H D rs) (s : Same H H1) : DL H1 D rs := by
  obtain ⟨ps, h1, h2, h3⟩ := h
  exact ⟨ps, s _ _ h1, h2, fun m p r a b => s _ _ (h3 m p r a b)⟩
theorem lc_works {K : PySem.W.Frag} {vs : List Nat} {a : Addr} {fs : List Addr} {rs : List (List V)} (hv : vs = [i]) (hj : σ[j]? = some (some (.ref a))) (hi : i < σ.length) (hl : SqL K H a (fs.map V.ref)) (ln : fs.length = rs.length) (l1 : fs.length ≤ 1000)
    (wk : ∀ (m : Nat) (f : Addr) (r : List V), fs[m]? = some f → rs[m]? = some r → Work X k TT σ H f r) (go : ∀ D H', Same H H' → DL H' D rs → Q (.ref D) H') :
    tLc (iList K (tVar j)) (gName i) tYes (tGive X k TT (tCons (tVar i) tNil) fun _ => σ) vs σ H Q := by
  subst hv
  refine ⟨_, hj, a, rfl, ⟨_, hl⟩, fun D hD => lc_list (K := K) (a := a) (xs := fs.map V.ref)
    (fun m H' => (∀ b o, b ≠ D → H b = some o → H' b = some o) ∧ ∃ ps : List Addr, H' D = some (.lst (ps.map V.ref)) ∧ ps.length = m ∧ m ≤ fs.length ∧ ∀ (n : Nat) (p : Addr) (r : List V), ps[n]? = some p → rs[n]? = some r → H' p = some (.tup r)) ?_ ?_ ?_ ?_⟩
  · exact ⟨fun b o n e => by rw [upd_ne n]; exact e, [], by rw [upd_same]; rfl, rfl, Nat.zero_le _, fun n p r e => by simp at e⟩
  · rintro m H' hm ⟨fr, _⟩
    exact Same.seq (fun b o e => fr b o (ne_of_none e hD) e) hl
  · rintro m x H' hx ⟨fr, ps, hD', lp, lm, hp⟩
    have sm : Same H H' := fun b o e => fr b o (ne_of_none e hD) e
    have hm : m < fs.length := by
      have := (List.getElem?_eq_some_iff.mp hx).1
      rw [List.length_map] at this
      exact this
    have ef : fs[m]? = some fs[m] := List.getElem?_eq_getElem hm
    have er : rs[m]? = some (rs[m]'(by omega)) := List.getElem?_eq_getElem (by omega)
    rw [List.getElem?_map, ef] at hx
    cases hx
    obtain ⟨pa, bo, sc, ds, t, la, lb, w⟩ := wk m _ _ ef er
    have hw : (wipe σ [i]).length = σ.length := wipe_length σ [i]
    refine ⟨?_, ?_⟩
    · show ((wipe σ []).set i none |>.set i (some (V.ref fs[m]))).set i none = (wipe σ []).set i none
      rw [List.set_set, List.set_set]
    show tGive X k TT (tCons (tVar i) tNil) (fun _ => σ) ((wipe σ [i]).set i (some (V.ref fs[m]))) H' _
    refine ⟨_, List.getElem?_set_self (by rw [hw]; exact hi), _, pa, bo, sc, ds, t, rfl, la.same sm, lb, ?_⟩
    refine w H' _ sm fun p H'' s'' hp'' => ?_
    have hD'' := s'' _ _ hD'
    refine ⟨_, hD'', by rw [List.length_map, lp]; exact Nat.lt_of_lt_of_le hm (Nat.le_trans l1 (by decide)), fun b o n e => by rw [upd_ne n]; exact s'' _ _ (fr b o n e), ps ++ [p], by rw [upd_same, List.map_append]; rfl, by rw [List.length_append, lp]; rfl, hm, fun n q r e1 e2 => ?_⟩
    have npD : ∀ {q : Addr} {r : List V}, H'' q = some (.tup r) → q ≠ D := fun {q r} e => ne_of e hD'' (fun z => nomatch z)
    by_cases hn : n < ps.length
    · rw [List.getElem?_append_left hn] at e1
      have := s'' _ _ (hp n q r e1 e2)
      rw [upd_ne (npD this)]
      exact this
    · rw [List.getElem?_append_right (by omega)] at e1
      have h0 : n - ps.length = 0 := by
        cases hh : n - ps.length with
        | zero => rfl
        | succ z => rw [hh] at e1; simp at e1
      rw [h0] at e1
      cases e1
      have : n = m := by omega
      subst this
      rw [er] at e2
      cases e2
      rw [upd_ne (npD hp'')]
      exact hp''
  · rintro H' ⟨fr, ps, hD', lp, _, hp⟩
    rw [List.length_map] at lp
    exact go D H' (fun b o e => fr b o (ne_of_none e hD) e) ⟨ps, hD', by rw [lp, ln], hp⟩
end
/-! ### promises put together -/
theorem fnUp {P : Program} {w : World} {K : PySem.W.Frag} {mg : Str → Option Value} {base : Heap} {k : Nat} {f : Addr} {fd : FuncData} {ps : List Str} {sp : Sp} (F : FnOk P w K mg base C8.CX0 k f fd ps sp) : FnOk P w K mg base (L2.CX P w) k f fd ps sp :=
  ⟨F.len, fun A outer s H args us vs Q E hr he hb hv hs => codeAny_mono (F.run A outer s H args us vs Q E hr he hb hv hs) fun r s' h => by
    cases r with
    | error e => exact (show False from h).elim
    | ok fl => cases fl <;> exact h⟩
theorem fnOr {P : Program} {w : World} {K : PySem.W.Frag} {mg : Str → Option Value} {base : Heap} {CX : CXT} {k : Nat} {f : Addr} {fd : FuncData} {ps : List Str} {sp sp' : Sp} (F : FnOk P w K mg base CX k f fd ps sp) (G : FnOk P w K mg base CX k f fd ps sp') :
    FnOk P w K mg base CX k f fd ps (fun vs H Q E => sp vs H Q E ∨ sp' vs H Q E) :=
  ⟨fun vs H Q E q => q.elim (F.len vs H Q E) (G.len vs H Q E), fun A outer s H args us vs Q E hr he hb hv hs => hs.elim (F.run A outer s H args us vs Q E hr he hb hv) (G.run A outer s H args us vs Q E hr he hb hv)⟩
/-! ### the comparison of such lists -/
def pdV : V → PyData
  | .str z => .str z
  | .int n => .int n
  | .bl b => .bool b
  | _ => .none
def okV : V → Bool
  | .str _ => true
  | .int _ => true
  | .bl _ => true
  | .non => true
  | _ => false
def pdL (rs : List (List V)) : PyData := .list (rs.map fun r => .tuple (r.map pdV))
section
variable {K : PySem.W.Frag} {H : Hp} {D D2 : Addr} {rs rt : List (List V)} {Q : VK}
theorem dp_flat : ∀ {r : List V}, r.all okV = true → DpAll K H r (r.map pdV)
  | [], _ => .nil
  | v :: r, h => by
    simp only [List.all_cons, Bool.and_eq_true] at h
    refine .cons ?_ (dp_flat h.2)
    cases v <;> first | exact .str _ | exact .int _ | exact .bl _ | exact .non | exact absurd (show false = true from h.1) Bool.false_ne_true
theorem dp_tups : ∀ {ps : List Addr} {rs : List (List V)}, ps.length = rs.length → (∀ (m : Nat) (p : Addr) (r : List V), ps[m]? = some p → rs[m]? = some r → H p = some (.tup r)) → (rs.all fun r => r.all okV) = true → DpAll K H (ps.map V.ref) (rs.map fun r => .tuple (r.map pdV))
  | [], [], _, _, _ => .nil
  | [], _ :: _, e, _, _ => by cases e
  | _ :: _, [], e, _, _ => by cases e
  | p :: ps, r :: rs, e, h, o => by
    simp only [List.all_cons, Bool.and_eq_true] at o
    exact .cons (.tup (SqT.of (h 0 p r rfl rfl)) (dp_flat o.1)) (dp_tups (Nat.succ.inj e) (fun m p' r' a b => h (m + 1) p' r' a b) o.2)
theorem DL.dp (h : DL H D rs) (o : (rs.all fun r => r.all okV) = true) : Dp K H (.ref D) (pdL rs) := by
  obtain ⟨ps, h1, h2, h3⟩ := h
  exact .lst (SqL.of h1) (dp_tups h2 h3 o)
theorem neD_DL (h : DL H D rs) (h2 : DL H D2 rt) (o : (rs.all fun r => r.all okV) = true) (o2 : (rt.all fun r => r.all okV) = true) (sh : SeqAt.shaped (pdL rs) = true) (sh2 : SeqAt.shaped (pdL rt) = true) (q : Q (.bl (!PyData.eqv (pdL rs) (pdL rt))) H) : rNeD K (.ref D) (.ref D2) H Q :=
  ⟨_, _, h.dp o, h2.dp o2, sh, sh2, q⟩
theorem eqD_DL (h : DL H D rs) (h2 : DL H D2 rt) (o : (rs.all fun r => r.all okV) = true) (o2 : (rt.all fun r => r.all okV) = true) (sh : SeqAt.shaped (pdL rs) = true) (sh2 : SeqAt.shaped (pdL rt) = true) (q : Q (.bl (PyData.eqv (pdL rs) (pdL rt))) H) : rEqD K (.ref D) (.ref D2) H Q :=
  ⟨_, _, h.dp o, h2.dp o2, sh, sh2, q⟩
end
end Ru
namespace Ru
open PySem PySem.Spec PyProof.Rows L2 LamX
def pdT (r : List V) : PyData := .tuple (r.map pdV)
theorem neD_tup {K : PySem.W.Frag} {H : Hp} {p q : Addr} {r t : List V} {Q : VK} (hp : H p = some (.tup r)) (hq : H q = some (.tup t)) (o : r.all okV = true) (o2 : t.all okV = true) (sh : SeqAt.shaped (pdT r) = true) (sh2 : SeqAt.shaped (pdT t) = true) (k : Q (.bl (!PyData.eqv (pdT r) (pdT t))) H) : rNeD K (.ref p) (.ref q) H Q :=
  ⟨_, _, .tup (SqT.of hp) (dp_flat o), .tup (SqT.of hq) (dp_flat o2), sh, sh2, k⟩
theorem give_work {X : Cx} {k : Nat} {TT : (XK → Hp → VK → Prop) → Hp → VK → Prop} {σ : L2.St} {H : Hp} {f : Addr} {xs : List V} {Q : VK} (w : Work X k TT σ H f xs) (go : ∀ p H'', Same H H'' → H'' p = some (.tup xs) → Q (.ref p) H'') :
    ∃ (f' : Addr) (params : Arguments) (body : Expr) (scope : Scope) (ds : List V) (t : XK → TE), [V.ref f] = [.ref f'] ∧ LamAt X H f' params body scope ds ∧ LamB X k params body scope ds t ∧ TT (fun E H' Q' => t E σ H' Q') H Q := by
  obtain ⟨pa, bo, sc, ds, t, la, lb, w⟩ := w
  exact ⟨f, pa, bo, sc, ds, t, rfl, la, lb, w H Q (Same.refl _) go⟩
end Ru
/-! ### a list of lambdas that grows -/
namespace Ru
open PySem PySem.Spec PyProof.Rows L2 LamX
/-- all but the lists stay -/
def ExtL (H H' : Hp) : Prop := ∀ b o, H b = some o → (∀ xs, o ≠ .lst xs) → H' b = some o
structure Lm where
  f : Addr
  pa : Arguments
  bo : Expr
  sc : Scope
  ds : List V
section
variable {X : Cx} {T : List (Addr × Str)} {H H' H0 : Hp} {W : Addr} {ls : List Lm}
theorem LamAt.extL {f : Addr} {params : Arguments} {body : Expr} {scope : Scope} {ds : List V} (h : LamAt X H f params body scope ds) (e : ExtL H H') : LamAt X H' f params body scope ds := by
  obtain ⟨c', dV, h1, h2, h3⟩ := h
  refine ⟨c', dV, e _ _ h1 (fun xs z => by unfold LamO at z; cases z), e _ _ h2 (fun xs z => by unfold CodeO at z; cases z), ?_⟩
  rcases h3 with h3 | ⟨h0, T, h3, h4⟩
  · exact .inl h3
  · exact .inr ⟨h0, T, h3, e _ _ h4 fun ps z => nomatch z⟩
theorem tabs_extL (t : Tabs T H) (e : ExtL H H') : Tabs T H' := fun p hp => by
  obtain ⟨ps, h1, h2, h3⟩ := t p hp
  refine ⟨ps, e _ _ h1 (fun _ z => nomatch z), h2, fun pos cv hc => ?_⟩
  obtain ⟨c, e1, e2⟩ := h3 pos cv hc
  exact ⟨c, e1, e _ _ e2 (fun xs z => by unfold CodeO at z; cases z)⟩
theorem extL_upd {xs : List V} {o : HO} (hW : H W = some (.lst xs)) : ExtL H (upd H W o) := fun b u e n => by
  rw [upd_ne fun z => by rw [z, hW] at e; exact n _ (Option.some.inj e).symm]; exact e
/-- the list at W holds the lambdas ls; what stood at the start (H0) stands -/
structure WS (X : Cx) (T : List (Addr × Str)) (H0 H : Hp) (W : Addr) (ls : List Lm) : Prop where
  ext : ExtN H0 H
  off : ∀ b u, H0 b = some u → (∀ ps, u ≠ .tbl ps) → b ≠ W
  tab : Tabs T H
  at_ : H W = some (.lst (ls.map fun l => V.ref l.f))
  lam : ∀ l ∈ ls, LamAt X H l.f l.pa l.bo l.sc l.ds
theorem WS.start (e : ExtN H0 H) (t : Tabs T H) (hl : ∀ l ∈ ls, LamAt X H l.f l.pa l.bo l.sc l.ds) (hW : H W = none) : WS X T H0 (upd H W (.lst (ls.map fun l => V.ref l.f))) W ls where
  ext := e.trans (ExtN.of (sameU hW))
  off := fun b u h n => ne_of_none (e b u h n) hW
  tab := t.ext (sameU hW)
  at_ := upd_same
  lam := fun l h => (hl l h).same (sameU hW)
theorem WS.more {ms : List Lm} (w : WS X T H0 H W ls) (e : ExtN H H') (t : Tabs T H') (hl : ∀ l ∈ ms, LamAt X H' l.f l.pa l.bo l.sc l.ds) : WS X T H0 (upd H' W (.lst ((ls ++ ms).map fun l => V.ref l.f))) W (ls ++ ms) := by
  have hW := e _ _ w.at_ (fun _ z => nomatch z)
  have x := extL_upd (o := .lst ((ls ++ ms).map fun l => V.ref l.f)) hW
  refine ⟨fun b u h n => ?_, w.off, tabs_extL t x, upd_same, fun l h => ?_⟩
  · rw [upd_ne (w.off b u h n)]
    exact e _ _ (w.ext b u h n) n
  · rcases List.mem_append.mp h with h | h
    · exact ((w.lam l h).ext e).extL x
    · exact (hl l h).extL x
theorem WS.same {ms : List Lm} (w : WS X T H0 H W ls) (s : Same H H') : WS X T H0 H' W ls := ⟨w.ext.trans (ExtN.of s), w.off, w.tab.ext s, s _ _ w.at_, fun l h => (w.lam l h).same s⟩
theorem WS.get (w : WS X T H0 H W ls) (n : Nat) {f : Addr} {pa : Arguments} {bo : Expr} {sc : Scope} {ds : List V} (h : ls[n]? = some ⟨f, pa, bo, sc, ds⟩) : LamAt X H f pa bo sc ds := w.lam _ (List.mem_of_getElem? h)
variable {K : PySem.W.Frag} {j : Nat} {σ : L2.St} {D : Ends}
theorem ws_one {pa : Arguments} {bo : Expr} {sc : Scope} {ds : List V} {Q : VK} (t : Tabs T H0) (k : ∀ W H f, WS X T H0 H W [⟨f, pa, bo, sc, ds⟩] → Q (.ref W) H) : tLst (tCons (tLamV T X pa bo sc ds) tNil) σ H0 Q :=
  ⟨t, fun f H1 e1 t1 _ la => ⟨by show 1 ≤ sizeLine; decide, fun W nW => k W _ f (.start (ls := [⟨f, pa, bo, sc, ds⟩]) e1 t1 (fun l h => by rcases List.mem_singleton.mp h with rfl; exact la) nW)⟩⟩
theorem ws_two {pa pa2 : Arguments} {bo bo2 : Expr} {sc sc2 : Scope} {ds ds2 : List V} {Q : VK} (t : Tabs T H0) (k : ∀ W H f f2, WS X T H0 H W [⟨f, pa, bo, sc, ds⟩, ⟨f2, pa2, bo2, sc2, ds2⟩] → Q (.ref W) H) : tLst (tCons (tLamV T X pa bo sc ds) (tCons (tLamV T X pa2 bo2 sc2 ds2) tNil)) σ H0 Q :=
  ⟨t, fun f H1 e1 t1 _ la => ⟨t1, fun f2 H2 e2 t2 _ la2 => ⟨by show 2 ≤ sizeLine; decide, fun W nW => k W _ f f2 (.start (ls := [⟨f, pa, bo, sc, ds⟩, ⟨f2, pa2, bo2, sc2, ds2⟩]) (e1.trans e2) t2 (fun l h => by
    rcases List.mem_cons.mp h with rfl | h
    · exact la.ext e2
    · rcases List.mem_singleton.mp h with rfl; exact la2) nW)⟩⟩⟩
theorem ws_three {pa pa2 pa3 : Arguments} {bo bo2 bo3 : Expr} {sc sc2 sc3 : Scope} {ds ds2 ds3 : List V} {Q : VK} (t : Tabs T H0) (k : ∀ W H f f2 f3, WS X T H0 H W [⟨f, pa, bo, sc, ds⟩, ⟨f2, pa2, bo2, sc2, ds2⟩, ⟨f3, pa3, bo3, sc3, ds3⟩] → Q (.ref W) H) : tLst (tCons (tLamV T X pa bo sc ds) (tCons (tLamV T X pa2 bo2 sc2 ds2) (tCons (tLamV T X pa3 bo3 sc3 ds3) tNil))) σ H0 Q :=
  ⟨t, fun f H1 e1 t1 _ la => ⟨t1, fun f2 H2 e2 t2 _ la2 => ⟨t2, fun f3 H3 e3 t3 _ la3 => ⟨by show 3 ≤ sizeLine; decide, fun W nW => k W _ f f2 f3 (.start (ls := [⟨f, pa, bo, sc, ds⟩, ⟨f2, pa2, bo2, sc2, ds2⟩, ⟨f3, pa3, bo3, sc3, ds3⟩]) ((e1.trans e2).trans e3) t3 (fun l h => by
    rcases List.mem_cons.mp h with rfl | h
    · exact la.ext (e2.trans e3)
    · rcases List.mem_cons.mp h with rfl | h
      · exact la2.ext e3
      · rcases List.mem_singleton.mp h with rfl; exact la3) nW)⟩⟩⟩⟩
theorem ws_append {pa : Arguments} {bo : Expr} {sc : Scope} {ds : List V} (w : WS X T H0 H W ls) (hj : σ[j]? = some (some (.ref W))) (hz : ls.length ≤ 1000) (k : ∀ H' f, WS X T H0 H' W (ls ++ [⟨f, pa, bo, sc, ds⟩]) → D.nx σ H') : tDrop (tBM K "list" rAppend (tVar j) (tCons (tLamV T X pa bo sc ds) tNil)) D σ H :=
  ⟨_, hj, .inl ⟨rfl, _, SqL.of w.at_⟩, w.tab, fun f H1 e1 t1 _ la => ⟨W, _, _, rfl, rfl, e1 _ _ w.at_ (fun _ z => nomatch z), by rw [List.length_map]; exact Nat.lt_of_le_of_lt hz (by decide), by
    have h := w.more (ms := [⟨f, pa, bo, sc, ds⟩]) e1 t1 (fun l h => by rcases List.mem_singleton.mp h with rfl; exact la)
    rw [List.map_append] at h
    exact k _ f h⟩⟩
theorem ws_extend2 {pa pa2 : Arguments} {bo bo2 : Expr} {sc sc2 : Scope} {ds ds2 : List V} (w : WS X T H0 H W ls) (hj : σ[j]? = some (some (.ref W))) (hz : ls.length ≤ 1000) (k : ∀ H' f f2, WS X T H0 H' W (ls ++ [⟨f, pa, bo, sc, ds⟩, ⟨f2, pa2, bo2, sc2, ds2⟩]) → D.nx σ H') :
    tDrop (tBM K "list" rExtend (tVar j) (tCons (tLst (tCons (tLamV T X pa bo sc ds) (tCons (tLamV T X pa2 bo2 sc2 ds2) tNil))) tNil)) D σ H :=
  ⟨_, hj, .inl ⟨rfl, _, SqL.of w.at_⟩, w.tab, fun f H1 e1 t1 _ la => ⟨t1, fun f2 H2 e2 t2 _ la2 => ⟨by show 2 ≤ sizeLine; decide, fun m nm => by
    have hW := e2 _ _ (e1 _ _ w.at_ (fun _ z => nomatch z)) (fun _ z => nomatch z)
    have s := sameU (o := .lst [V.ref f, V.ref f2]) nm
    refine ⟨W, m, _, _, rfl, rfl, s _ _ hW, upd_same, by rw [List.length_map]; show ls.length + 2 ≤ sizeLine; exact Nat.le_trans (Nat.add_le_add_right hz 2) (by decide), ?_⟩
    have h := w.more (ms := [⟨f, pa, bo, sc, ds⟩, ⟨f2, pa2, bo2, sc2, ds2⟩]) ((e1.trans e2).trans (ExtN.of s)) (t2.ext s) (fun l h => by
      rcases List.mem_cons.mp h with rfl | h
      · exact (la.ext e2).same s
      · rcases List.mem_singleton.mp h with rfl; exact la2.same s)
    rw [List.map_append] at h
    exact k _ f f2 h⟩⟩⟩
end
end Ru

/-! comparisons of nested data: what is the same, whole numbers in a row -/
namespace Ru
open PySem PySem.Spec PyProof.Rows L2 LamX
mutual
theorem eqv_self : ∀ d : PyData, d.canLay0 = true → PyData.eqv d d = true
  | .none, _ => by simp [PyData.eqv]
  | .bool b, _ => by simp [PyData.eqv]
  | .int i, _ => by simp [PyData.eqv]
  | .str x, _ => by simp [PyData.eqv]
  | .list xs, h => by
    have h : PyData.canLayAll0 xs = true := by simpa [PyData.canLay0] using h
    simp only [PyData.eqv]
    exact eqvAll_self xs h
  | .tuple xs, h => by
    have h : PyData.canLayAll0 xs = true := by simpa [PyData.canLay0] using h
    simp only [PyData.eqv]
    exact eqvAll_self xs h
  | .dict kvs, h => by simp [PyData.canLay0] at h
theorem eqvAll_self : ∀ ds : List PyData, PyData.canLayAll0 ds = true → PyData.eqvAll ds ds = true
  | [], _ => by simp [PyData.eqvAll]
  | x :: xs, h => by
    simp only [PyData.canLayAll0, Bool.and_eq_true] at h
    simp only [PyData.eqvAll, Bool.and_eq_true]
    exact ⟨eqv_self x h.1, eqvAll_self xs h.2⟩
end
/-- can be compared; at most so deep -/
def Sh (n : Nat) (d : PyData) : Prop := d.canLay0 = true ∧ d.depth ≤ n
theorem canAll : ∀ {ds : List PyData}, (∀ d ∈ ds, d.canLay0 = true) → PyData.canLayAll0 ds = true
  | [], _ => by simp [PyData.canLayAll0]
  | x :: xs, h => by
    simp only [PyData.canLayAll0, Bool.and_eq_true]
    exact ⟨h x (List.mem_cons_self ..), canAll fun d m => h d (List.mem_cons_of_mem _ m)⟩
theorem depAll {n : Nat} : ∀ {ds : List PyData}, (∀ d ∈ ds, d.depth ≤ n) → PyData.depthAll ds ≤ n
  | [], _ => by simp [PyData.depthAll]
  | x :: xs, h => by
    simp only [PyData.depthAll]
    exact Nat.max_le.mpr ⟨h x (List.mem_cons_self ..), depAll fun d m => h d (List.mem_cons_of_mem _ m)⟩
theorem Sh.int {n : Nat} {i : Int} : Sh n (.int i) := ⟨by simp [PyData.canLay0], by simp [PyData.depth]⟩
theorem Sh.bool {n : Nat} {b : Bool} : Sh n (.bool b) := ⟨by simp [PyData.canLay0], by simp [PyData.depth]⟩
theorem Sh.non {n : Nat} : Sh n .none := ⟨by simp [PyData.canLay0], by simp [PyData.depth]⟩
theorem Sh.str {n : Nat} {s : Str} (h : PyData.strOk s = true) : Sh n (.str s) := ⟨by simpa [PyData.canLay0] using h, by simp [PyData.depth]⟩
theorem Sh.list {n : Nat} {ds : List PyData} (h : ∀ d ∈ ds, Sh n d) : Sh (n + 1) (.list ds) := ⟨by simp only [PyData.canLay0]; exact canAll fun d m => (h d m).1, by simp only [PyData.depth]; exact Nat.succ_le_succ (depAll fun d m => (h d m).2)⟩
theorem Sh.tup {n : Nat} {ds : List PyData} (h : ∀ d ∈ ds, Sh n d) : Sh (n + 1) (.tuple ds) := ⟨by simp only [PyData.canLay0]; exact canAll fun d m => (h d m).1, by simp only [PyData.depth]; exact Nat.succ_le_succ (depAll fun d m => (h d m).2)⟩
theorem Sh.shaped {n : Nat} {d : PyData} (h : Sh n d) (l : n ≤ 64 := by decide) : SeqAt.shaped d = true := by
  unfold SeqAt.shaped
  rw [Bool.and_eq_true]
  exact ⟨h.1, decide_eq_true (Nat.le_trans h.2 l)⟩
theorem sh_nil {n : Nat} : ∀ d ∈ ([] : List PyData), Sh n d := fun d m => by cases m
theorem sh_cons {n : Nat} {x : PyData} {xs : List PyData} (h : Sh n x) (t : ∀ d ∈ xs, Sh n d) : ∀ d ∈ x :: xs, Sh n d := fun d m => by
  rcases List.mem_cons.mp m with rfl | m
  · exact h
  · exact t d m
theorem sh_ints {n : Nat} {ns : List Int} : ∀ d ∈ ns.map PyData.int, Sh n d := fun d m => by
  obtain ⟨i, _, rfl⟩ := List.mem_map.mp m
  exact Sh.int
section
variable {K : PySem.W.Frag} {H : Hp} {x y : V} {d e : PyData} {Q : VK}
theorem neD_self (h : Dp K H x d) (h2 : Dp K H y d) (s : SeqAt.shaped d = true) (q : Q (.bl false) H) : rNeD K x y H Q :=
  ⟨d, d, h, h2, s, s, by rw [eqv_self d (by unfold SeqAt.shaped at s; exact ((Bool.and_eq_true ..).mp s).1)]; exact q⟩
theorem eqD_self (h : Dp K H x d) (h2 : Dp K H y d) (s : SeqAt.shaped d = true) (q : Q (.bl true) H) : rEqD K x y H Q :=
  ⟨d, d, h, h2, s, s, by rw [eqv_self d (by unfold SeqAt.shaped at s; exact ((Bool.and_eq_true ..).mp s).1)]; exact q⟩
theorem dp_ints : ∀ ns : List Int, DpAll K H (ns.map V.int) (ns.map PyData.int)
  | [] => .nil
  | n :: r => .cons (.int n) (dp_ints r)
theorem eqvA_ints : ∀ xs ys : List Int, PyData.eqvAll (xs.map PyData.int) (ys.map PyData.int) = decide (xs = ys)
  | [], [] => by simp [PyData.eqvAll]
  | [], y :: ys => by simp [PyData.eqvAll]
  | x :: xs, [] => by simp [PyData.eqvAll]
  | x :: xs, y :: ys => by
    rw [List.map_cons, List.map_cons, PyData.eqvAll, eqvA_ints xs ys]
    by_cases e : x = y
    · by_cases f : xs = ys
      · simp [PyData.eqv, e, f]
      · simp [PyData.eqv, e, f]
    · simp [PyData.eqv, e]
variable {p q : Addr} {ns ms : List Int}
theorem eqL_ints (h : H p = some (.lst (ns.map V.int))) (h2 : H q = some (.lst (ms.map V.int))) (k : Q (.bl (decide (ns = ms))) H) : rEqD K (.ref p) (.ref q) H Q :=
  ⟨.list (ns.map PyData.int), .list (ms.map PyData.int), .lst (SqL.of h) (dp_ints ns), .lst (SqL.of h2) (dp_ints ms), (Sh.list (n := 0) sh_ints).shaped, (Sh.list (n := 0) sh_ints).shaped, by simp only [PyData.eqv]; rw [eqvA_ints]; exact k⟩
theorem neL_ints (h : H p = some (.lst (ns.map V.int))) (h2 : H q = some (.lst (ms.map V.int))) (k : Q (.bl (!decide (ns = ms))) H) : rNeD K (.ref p) (.ref q) H Q :=
  ⟨.list (ns.map PyData.int), .list (ms.map PyData.int), .lst (SqL.of h) (dp_ints ns), .lst (SqL.of h2) (dp_ints ms), (Sh.list (n := 0) sh_ints).shaped, (Sh.list (n := 0) sh_ints).shaped, by simp only [PyData.eqv]; rw [eqvA_ints]; exact k⟩
theorem eqT_ints (h : H p = some (.tup (ns.map V.int))) (h2 : H q = some (.tup (ms.map V.int))) (k : Q (.bl (decide (ns = ms))) H) : rEqD K (.ref p) (.ref q) H Q :=
  ⟨.tuple (ns.map PyData.int), .tuple (ms.map PyData.int), .tup (SqT.of h) (dp_ints ns), .tup (SqT.of h2) (dp_ints ms), (Sh.tup (n := 0) sh_ints).shaped, (Sh.tup (n := 0) sh_ints).shaped, by simp only [PyData.eqv]; rw [eqvA_ints]; exact k⟩
theorem neT_ints (h : H p = some (.tup (ns.map V.int))) (h2 : H q = some (.tup (ms.map V.int))) (k : Q (.bl (!decide (ns = ms))) H) : rNeD K (.ref p) (.ref q) H Q :=
  ⟨.tuple (ns.map PyData.int), .tuple (ms.map PyData.int), .tup (SqT.of h) (dp_ints ns), .tup (SqT.of h2) (dp_ints ms), (Sh.tup (n := 0) sh_ints).shaped, (Sh.tup (n := 0) sh_ints).shaped, by simp only [PyData.eqv]; rw [eqvA_ints]; exact k⟩
end
end Ru

set_option maxHeartbeats 4000000
/-! a def that gets a lambda, and calls it in a lambda of its own -/
namespace Ru
open PySem PySem.Spec PyProof.Rows L2 LamX
/-- what is known of a lambda's body where more is known of the heap at its call -/
structure LamBP (X : Cx) (Pr : Hp → Heap → Prop) (k : Nat) (params : Arguments) (body : Expr) (scope : Scope) (ds : List V) (t : XK → TE) : Prop where
  L : LamS2 X.N X.env.scope scope
  bnd : LamBnd params body scope ds
  pe : ∀ (A : Around) (outer : List Env) (s : Shared) (H : Hp) (E : XK) (f c' : Addr), Pr H s.heap → Room k (A.deeper (lamEnv X scope s.heap.objs.size f c')) → PE (lamCx X A outer s H E scope f c') body (t E)
/-- what a call leaves alone -/
def Stable (Pr : Hp → Heap → Prop) : Prop := ∀ (fs : List Addr) (H H' : Hp) (h h' : Heap), Un fs [] H H' h h' → Pr H h → Pr H' h'
theorem CellsAt.stable {X : Cx} {σ : L2.St} : Stable (CellsAt X σ) := fun _ _ _ _ _ un c => c.un un fun _ _ _ z => nomatch z
theorem lam_runP {X : Cx} {Pr : Hp → Heap → Prop} {A : Around} {outer : List Env} {s : Shared} {H : Hp} {σ : L2.St} {f : Addr} {params : Arguments} {body : Expr} {scope : Scope} {ds : List V} {t : XK → TE} {k : Nat} {E : XK} {Q : VK}
    (e0 : Env0 X.prog X.w X.K X.mg X.base A outer s H) (C : CellsAt X σ H s.heap) (hP : Pr H s.heap) (la : LamAt X H f params body scope ds) (B : LamBP X Pr k params body scope ds t) (hr : Room (k + 1) A) (h : t E σ H Q) :
    codeAny (model X.prog X.w) A (.call (.ref f) ⟨[], []⟩) (CR (L2.CX X.prog X.w) outer X.prog X.w H s Q E) s := by
  obtain ⟨c', dV, hf, hc, hd⟩ := la
  obtain ⟨⟨doc, pm, ctv, lam⟩, _, _⟩ := e0.hok f _ hf
  obtain ⟨⟨oc, vs, tc, hoc, hdc, hvc⟩, _, _⟩ := e0.hok c' _ hc
  have lim : s.heap.NoLimit := e0.mod.nolimit.keeps fun b o e => (e0.bs b o e).1
  have hd' : (ds = [] ∧ dV = .none) ∨ (ds ≠ [] ∧ ∃ (T : Addr) (o : Obj) (its : List Value) (n : Nat), dV = .ref T ∧ s.heap.get? T = some o ∧ o.data = .seq its.toArray n ∧ Vals ds its) := by
    rcases hd with z | ⟨z0, T, z1, z2⟩
    · exact .inl z
    · obtain ⟨_, its, r, o, ho, _, n, hn⟩ := e0.hok T _ z2
      exact .inr ⟨z0, T, o, its, n, z1, ho, hn, r⟩
  obtain ⟨binds, hb, hloc⟩ := B.bnd (X.env.qual ++ "<lambda>") (cloFrom X.env.cells scope.names []) doc pm (.ref c') ctv dV s hd'
  refine PySem.W.kla_callFunE hr.depth lam rfl B.L.co B.L.gen rfl ⟨c', oc, vs, tc, rfl, hoc, hdc, hvc⟩ (hb _ _ _ _ ?_)
  refine wpAny_newFunctionEnv (fun y hy => (B.L.own y hy).1) hloc (fun hB nsB sb => ⟨lim.fresh _ sb, ?_⟩) B.L.kind
  show codeAny _ _ (.expr body (lamEnv X scope s.heap.objs.size f c')) _ _
  have kp : ∀ b o, s.heap.get? b = some o → hB.get? b = some o := fun b o e => sb.extBut b o (Nat.ne_of_lt (Heap.lt_size e)) (Heap.get?_push_of_some _ e)
  have J := lam_start3 (f := f) (c' := c') (E := E) (tk := s.toks + binds.length) C B.L e0 hr.hd nsB kp
  refine PySem.W.kla_codeExpr (wpAny_mono ((B.pe _ _ s H E f c' hP (hr.deeper _)).run [] _ _ H Q J h) (fun v sx hq => ?_) fun e sx hq => hq)
  obtain ⟨vv, Hx, Jx, rv, q⟩ := hq
  exact ⟨vv, Hx, Jx.os, Jx.bare, Jx.base, Jx.hok, rv, q⟩
section
variable {X : Cx} {Pr : Hp → Heap → Prop}
theorem pe_act2P {sg : Scope} {g : Addr} {cdg : Value} {Ng : List Str} {qg a : Str} {s : Shared} {H : Hp} {σ : L2.St} {f : Addr} {params : Arguments} {body : Expr} {scope : Scope} {ds : List V} {k : Nat} {pn : List (Addr × Obj)} {xe : Value → Shared → Prop} {W : WX} {t : XK → TE} {pa pc : Pos}
    (hS : Stable Pr) (C : CellsAt X σ H s.heap) (hP : Pr H s.heap) (la : LamAt X H f params body scope ds) (B : LamBP X Pr k params body scope ds t)
    (tk : Takes ((cxOf C8.CX0 X.prog X.w X.K X.mg X.base Ng qg sg g cdg X.A X.stack s H C8.E0).tr pn xe) W) (hr : Room (k + 1) (X.A.deeper (envOfC qg sg s.heap.objs.size g cdg)))
    (hN : Ng[0]? = some a) (hv : Vis sg a) (hd : (a == ("__debug__" : Str)) = false) (hcd : (a == ("__classdict__" : Str)) = false) :
    PE ((cxOf C8.CX0 X.prog X.w X.K X.mg X.base Ng qg sg g cdg X.A X.stack s H C8.E0).tr pn xe) (.Call (.Name a pa) [] [] pc) (tAct2 f H (fun Ez Hz Q => t Ez σ Hz Q) W) := by
  refine ⟨fun pz sz σz Hz Q Iz h => ?_⟩
  obtain ⟨hs, sm, Ez, hW, ht⟩ := h
  refine wpAny_Call_Name_kw (thn ((pe_var (pos := pa) (i := 0) hN hv hd hcd).run pz sz σz Hz (fun v Hy => v = .ref f ∧ Hy = Hz) Iz ⟨.ref f, hs, rfl, rfl⟩) fun u sy ⟨v, Hy, Iy, ry, qy⟩ => ?_)
  obtain ⟨rfl, rfl⟩ := qy
  obtain rfl : u = Value.ref f := ry
  have la' := la.same sm
  obtain ⟨c', dV, hf, hc, hdd⟩ := id la'
  obtain ⟨⟨doc, pm, ctv, lam⟩, _, _⟩ := Iy.hok f _ hf
  refine PySem.W.callWith_F0 ⟨_, _, _, _, lam⟩ ?_
  have un : Un (frs X.stack) [] H Hy s.heap sy.heap := Iy.base
  have run : codeAny (model X.prog X.w) (X.A.deeper (envOfC qg sg s.heap.objs.size g cdg)) (.call (.ref f) ⟨[], []⟩)
      (CR (L2.CX X.prog X.w) (envOfC qg sg s.heap.objs.size g cdg :: X.stack) X.prog X.w Hy sy Q Ez) sy :=
    lam_runP (X := X) Iy.env0 (C.un un fun _ _ _ z => nomatch z) (hS _ _ _ _ _ un hP) la' B hr ht
  refine wpAny_call (codeAny_mono run fun r sx hq => ?_)
  cases r with
  | error e => exact tk e sx (XE.of_call Iy (fun cls d Hx hE => hW cls d Hx hE) hq)
  | ok fl =>
    cases fl with
    | ret u => exact Iy.after hq
    | next => exact False.elim hq
    | brk => exact False.elim hq
    | cont => exact False.elim hq
theorem give_runP {TT : (XK → Hp → VK → Prop) → Hp → VK → Prop} {x a : Str} {g : Addr} {k : Nat} {bg : List Stmt} {sg : Scope} {Ng : List Str} {params : Arguments} {body : Expr} {scope : Scope} {ds : List V} {t : XK → TE} {s : Shared} {H : Hp} {σ : L2.St} {f : Addr} {Q : VK}
    (hS : Stable Pr) (G : GiveF X Ng x sg g bg a TT) (e0 : Env0 X.prog X.w X.K X.mg X.base X.A X.stack s H) (C : CellsAt X σ H s.heap) (hP : Pr H s.heap) (hr : Room (k + 2) X.A) (h9 : 9 ≤ k + 1) (la : LamAt X H f params body scope ds) (B : LamBP X Pr k params body scope ds t)
    (h : TT (fun E H' Q' => t E σ H' Q') H Q) : codeAny (model X.prog X.w) X.A (.call (.ref g) ⟨[.ref f], []⟩) (CR C8.CX0 X.stack X.prog X.w H s Q C8.E0) s := by
  obtain ⟨pg, dV, kV, doc, pm, cdv, ct, oc, an, od, osl, lk, hcg, hbi, hG⟩ := G.ex
  have kin : X.K.In s.heap := e0.mod.kin.keeps fun b o e => (e0.bs b o e).1
  refine run_ofS (N := Ng) (ps := [a]) (us := [.ref f]) (vs := [.ref f]) lk hcg G.Sg hr e0 (hbi s [.ref f] kin rfl) (.cons rfl .nil) rfl fun hr' => ?_
  exact hG f s H Q (fun E H' Q' => t E σ H' Q') (hr'.mono h9) (fun W pn xe pa pc tk => pe_act2P hS C hP la B tk hr' G.hN G.hv G.hd G.hcd) h
def tGiveP (X : Cx) (Pr : Hp → Heap → Prop) (k : Nat) (TT : (XK → Hp → VK → Prop) → Hp → VK → Prop) (ta : TA) (τ : L2.St → L2.St) : TE := fun σz H Q =>
  ta σz H fun vs H1 => ∃ (f : Addr) (params : Arguments) (body : Expr) (scope : Scope) (ds : List V) (t : XK → TE), vs = [.ref f] ∧ LamAt X H1 f params body scope ds ∧ LamBP X Pr k params body scope ds t ∧ TT (fun E H' Q' => t E (τ σz) H' Q') H1 Q
/-- x(e), e a lambda of the def that runs, which itself got a lambda -/
theorem pe_give2P {TT : (XK → Hp → VK → Prop) → Hp → VK → Prop} {x a : Str} {g : Addr} {k : Nat} {bg : List Stmt} {sg : Scope} {Ng : List Str} {e : Expr} {ta : TA} {p pos : Pos} (hS : Stable Pr) (hP : Pr X.H_0 X.s_0.heap) (hex : X.ex = []) (G : GiveF X Ng x sg g bg a TT) (hg : Gl X x) (hr : Room (k + 2) X.A) (h9 : 9 ≤ k + 1) (ha : PA X [e] ta)
    (hdb : (x == ("__debug__" : Str)) = false := by decide) (he : starEach [e] X.env = (false, eval e X.env) :: starEach [] X.env := by rfl) (hpl : (backTo pos (starEach [] X.env)).any (·.1) = false := by rfl) :
    PE X (.Call (.Name x p) [e] [] pos) (tGiveP X Pr k TT ta id) := by
  refine ⟨fun pins s σ H Q I h => ?_⟩
  refine wpAny_Call_Name_kw (ld_glob I hg G.hm ?_ hdb)
  refine PySem.W.callWith_K (h₀ := X.base) I.ok.mod.kin G.hk (thn (ha.run pos pins s σ H _ I h) fun us s1 ⟨vs, H1, I1, r, q⟩ => ⟨I1.kIn, ?_⟩) he hpl
  obtain ⟨f, params, body, scope, ds, t, rfl, la, B, q⟩ := q
  obtain ⟨u, rfl, ru⟩ := r.one
  obtain rfl : u = Value.ref f := ru
  have un := I1.base
  rw [hex] at un
  refine wpAny_call (codeAny_mono (give_runP hS G I1.env0 (.of I1) (hS _ _ _ _ _ un hP) hr h9 la B q) fun r sx hq => ?_)
  cases r with
  | error e => exact (show False from hq).elim
  | ok fl =>
    cases fl with
    | ret u => exact I1.after hq
    | next => exact False.elim hq
    | brk => exact False.elim hq
    | cont => exact False.elim hq
end
/-! ### the call of what was got, in a lambda of the def that got it -/
/-- a(), a: the name (at i) of a lambda of X -/
def tCap (X : Cx) (k : Nat) (σ0 : L2.St) (i : Nat) (E : XK) : TE := fun σz Hz Q =>
  ∃ (f : Addr) (params : Arguments) (body : Expr) (scope : Scope) (ds : List V) (t : XK → TE), σz[i]? = some (some (.ref f)) ∧ LamAt X Hz f params body scope ds ∧ LamB X k params body scope ds t ∧ t E σ0 Hz Q
theorem pe_cap {X : Cx} {sg : Scope} {g : Addr} {cdg : Value} {Ng : List Str} {qg a : Str} {s s1 : Shared} {H H1 : Hp} {σ0 : L2.St} {A : Around} {outer : List Env} {E E' : XK} {scope : Scope} {f' c' : Addr} {k i : Nat} {pa pc : Pos}
    (hC : CellsAt X σ0 H1 s1.heap) (hr : Room (k + 1) (A.deeper (lamEnv (cxOf C8.CX0 X.prog X.w X.K X.mg X.base Ng qg sg g cdg X.A X.stack s H C8.E0) scope s1.heap.objs.size f' c')))
    (hx : Passes (L2.CX X.prog X.w) (lamCx (cxOf C8.CX0 X.prog X.w X.K X.mg X.base Ng qg sg g cdg X.A X.stack s H C8.E0) A outer s1 H1 E scope f' c') E')
    (hN : Ng[i]? = some a) (hv : Vis scope a) (hd : (a == ("__debug__" : Str)) = false) (hcd : (a == ("__classdict__" : Str)) = false) :
    PE (lamCx (cxOf C8.CX0 X.prog X.w X.K X.mg X.base Ng qg sg g cdg X.A X.stack s H C8.E0) A outer s1 H1 E scope f' c') (.Call (.Name a pa) [] [] pc) (tCap X k σ0 i E') := by
  refine ⟨fun pz sz σz Hz Q Iz h => ?_⟩
  obtain ⟨f, params, body, sc, ds, t, hs, la, B, ht⟩ := h
  refine wpAny_Call_Name_kw (thn ((pe_var (pos := pa) (i := i) hN hv hd hcd).run pz sz σz Hz (fun v Hy => v = .ref f ∧ Hy = Hz) Iz ⟨.ref f, hs, rfl, rfl⟩) fun u sy ⟨v, Hy, Iy, ry, qy⟩ => ?_)
  obtain ⟨rfl, rfl⟩ := qy
  obtain rfl : u = Value.ref f := ry
  obtain ⟨c2, dV, hf, hc, hdd⟩ := id la
  obtain ⟨⟨doc, pm, ctv, lam⟩, _, _⟩ := Iy.hok f _ hf
  refine PySem.W.callWith_F0 ⟨_, _, _, _, lam⟩ ?_
  have un : Un (frs outer) [] H1 Hy s1.heap sy.heap := Iy.base
  have run := lam_run (X := X) (E := E') (Q := Q) Iy.env0 (hC.un un fun _ _ _ z => nomatch z) la B hr ht
  refine wpAny_call (codeAny_mono run fun r sx hq => ?_)
  cases r with
  | error e => exact hx _ _ _ _ _ _ Iy hq
  | ok fl =>
    cases fl with
    | ret u => exact Iy.after hq
    | next => exact False.elim hq
    | brk => exact False.elim hq
    | cont => exact False.elim hq
/-! ### the def itself -/
/-- what it makes of the lambda it gets, where that lambda's cells and object are known -/
def Gives3 (X : Cx) (k : Nat) (Ng : List Str) (x : Str) (sg : Scope) (g : Addr) (cdg : Value) (bg : List Stmt) (TT : (XK → Hp → VK → Prop) → Hp → VK → Prop) : Prop :=
  ∀ (f : Addr) (s : Shared) (H : Hp) (Q : VK) (σ : L2.St) (params : Arguments) (body : Expr) (scope : Scope) (ds : List V) (t : XK → TE), Room (k + 5) (X.A.deeper (envOfC x sg s.heap.objs.size g cdg)) → CellsAt X σ H s.heap → LamAt X H f params body scope ds → LamB X k params body scope ds t →
    TT (fun E H' Q' => t E σ H' Q') H Q → ∃ t', PSs (cxOf C8.CX0 X.prog X.w X.K X.mg X.base Ng x sg g cdg X.A X.stack s H C8.E0) bg t' ∧ t' { nx := fun _ H' => Q .non H', rt := Q } (L2.start Ng [.ref f]) H
structure GiveF3 (X : Cx) (k : Nat) (Ng : List Str) (x : Str) (sg : Scope) (g : Addr) (bg : List Stmt) (a : Str) (TT : (XK → Hp → VK → Prop) → Hp → VK → Prop) : Prop where
  hm : X.mg x = some (.ref g)
  hk : PySem.W.keepIn X.K (.ref g) = true
  ex : ∃ (pg : Arguments) (dV kV doc pm cdv ct oc : Value) (an od : Option Addr) (osl : Array (Option Value)), X.K.lookup g = some ⟨oc, od, .func (PySem.W.fnOf x x pg bg sg dV kV doc pm an cdv ct), osl⟩ ∧ PySem.W.codeIn X.K cdv x = true ∧
    L2.Binds X.K (PySem.W.fnOf x x pg bg sg dV kV doc pm an cdv ct) [a] [] ∧ Gives3 X k Ng x sg g cdv bg TT
  Sg : FnScope Ng [a] sg
section
variable {X : Cx}
theorem pe_give3 {TT : (XK → Hp → VK → Prop) → Hp → VK → Prop} {x a : Str} {g : Addr} {k : Nat} {bg : List Stmt} {sg : Scope} {Ng : List Str} {e : Expr} {ta : TA} {p pos : Pos} (G : GiveF3 X k Ng x sg g bg a TT) (hg : Gl X x) (hr : Room (k + 6) X.A) (ha : PA X [e] ta)
    (hdb : (x == ("__debug__" : Str)) = false := by decide) (he : starEach [e] X.env = (false, eval e X.env) :: starEach [] X.env := by rfl) (hpl : (backTo pos (starEach [] X.env)).any (·.1) = false := by rfl) :
    PE X (.Call (.Name x p) [e] [] pos) (tGive X k TT ta id) := by
  refine ⟨fun pins s σ H Q I h => ?_⟩
  refine wpAny_Call_Name_kw (ld_glob I hg G.hm ?_ hdb)
  refine PySem.W.callWith_K (h₀ := X.base) I.ok.mod.kin G.hk (thn (ha.run pos pins s σ H _ I h) fun us s1 ⟨vs, H1, I1, r, q⟩ => ⟨I1.kIn, ?_⟩) he hpl
  obtain ⟨f, params, body, scope, ds, t, rfl, la, B, q⟩ := q
  obtain ⟨u, rfl, ru⟩ := r.one
  obtain rfl : u = Value.ref f := ru
  obtain ⟨pg, dV, kV, doc, pm, cdv, ct, oc, an, od, osl, lk, hcg, hbi, hG⟩ := G.ex
  have e0 := I1.env0
  have kin : X.K.In s1.heap := e0.mod.kin.keeps fun b o e => (e0.bs b o e).1
  have run : codeAny (model X.prog X.w) X.A (.call (.ref g) ⟨[.ref f], []⟩) (CR C8.CX0 X.stack X.prog X.w H1 s1 Q C8.E0) s1 :=
    run_ofS (N := Ng) (ps := [a]) (us := [.ref f]) (vs := [.ref f]) lk hcg G.Sg hr e0 (hbi s1 [.ref f] kin rfl) (.cons rfl .nil) rfl fun hr' => hG f s1 H1 Q σ params body scope ds t hr' (.of I1) la B q
  refine wpAny_call (codeAny_mono run fun r sx hq => ?_)
  cases r with
  | error e => exact (show False from hq).elim
  | ok fl =>
    cases fl with
    | ret u => exact I1.after hq
    | next => exact False.elim hq
    | brk => exact False.elim hq
    | cont => exact False.elim hq
end
end Ru

set_option maxHeartbeats 4000000
/-! own operators: a + b of two instances of a class with its own __add__; len(a) with its own __len__ -/
namespace Ru
open PySem PySem.Spec PyProof.Rows L2 StX
/-- the class stands first in its own order -/
def mroHd (K : PySem.W.Frag) (C : Addr) : Bool := match PySem.W.clsIn K C with
  | some cd => (match cd.mro with
    | .ref D :: _ => decide (D = C)
    | _ => false)
  | none => false
section
variable {prog : Program} {w : World} {A : Around} {E : Value → Shared → Prop} {s : Shared} {K : PySem.W.Frag} {C f : Addr} {nm : String}
theorem mro_hd {h : Heap} (X : K.In h) (hm : mroHd K C = true) : ∃ rest, PySem.W.Looks (model prog w) h (mroOf (.ref C)) (.ref C :: rest) := by
  unfold mroHd at hm
  cases e : PySem.W.clsIn K C with
  | none => rw [e] at hm; cases hm
  | some cd =>
    rw [e] at hm
    have L : PySem.W.Looks (model prog w) h (mroOf (.ref C)) cd.mro := (PySem.W.looks_clsIn X e).andThen .now
    cases em : cd.mro with
    | nil =>
      have hm2 : (match cd.mro with
        | .ref D :: _ => decide (D = C)
        | _ => false) = true := hm
      rw [em] at hm2; cases hm2
    | cons v rest =>
      have hm2 : (match cd.mro with
        | .ref D :: _ => decide (D = C)
        | _ => false) = true := hm
      rw [em] at hm2 L
      cases v with
      | ref D =>
        have e2 : D = C := of_decide_eq_true hm2
        rw [e2] at L
        exact ⟨rest, L⟩
      | _ => cases hm2
theorem fills_own {h : Heap} {g : Array GenState} {d : Drawn} {t : Nat} {os : OsState} {Q : Bool → Shared → Prop} (X : K.In h) (hm : mroHd K C = true) (ha : PySem.W.findIn K (.ref C) (dunder nm) = some (some (.ref f))) (hq : Q true ⟨h, g, d, t, os⟩) :
    wpAny (model prog w) A (fillsNumberSlot (.ref C) nm) Q E ⟨h, g, d, t, os⟩ := by
  obtain ⟨rest, L⟩ := mro_hd (prog := prog) (w := w) X hm
  unfold fillsNumberSlot
  refine wpAny_bind (L.at ?_)
  simp only [List.anyM]
  refine wpAny_bind (wpAny_bind ?_)
  refine wpAny_bind ((PySem.W.looks_findIn X ha).at ?_)
  have ho : ownNameWrapper (.ref f) (dunder nm) = false := rfl
  dsimp only
  rw [ho]
  exact wpAny_pure (wpAny_pure (wpAny_pure hq))
/-- a.m(b) by the class, its answer never NotImplemented -/
theorem try_own {a b : Addr} {m : Str} {Q : Option Value → Shared → Prop} (X : K.In s.heap) {oa : Obj} (ho : s.heap.get? a = some oa) (hc : oa.cls = .ref C) (ha : PySem.W.findIn K (.ref C) m = some (some (.ref f))) (hf : PySem.W.isFn K (.ref f) = true)
    (h : wpAny (model prog w) A (call (.ref f) [.ref a, .ref b]) (fun v s' => v ≠ .notImplemented ∧ Q (some v) s') E s) : wpAny (model prog w) A (tryMethod (.ref a) m (.ref b)) Q E s := by
  obtain ⟨hh, g, d, t, os⟩ := s
  have sp : PySem.W.Looks (model prog w) hh (specialOf (.ref a) m) (some (.ref f)) := (NwA.type_at ho hc).andThen (PySem.W.looks_findIn X ha)
  unfold tryMethod callSpecial?
  refine wpAny_bind (wpAny_bind (sp.at ?_))
  refine wpAny_holding (wpAny_bind ((PySem.W.bind_fn X _ (beq_iff_eq.mp hf)).at ?_))
  refine wpAny_bind (wpAny_mono h (fun v s' ⟨hn, hq⟩ => ?_) fun _ _ z => z)
  refine wpAny_pure ?_
  cases v <;> first | exact wpAny_pure hq | exact absurd rfl hn
theorem bin1_own {a b : Addr} {Q : Option Value → Shared → Prop} (X : K.In s.heap) (hm : mroHd K C = true) {oa ob : Obj} (ha : s.heap.get? a = some oa) (hac : oa.cls = .ref C) (hb : s.heap.get? b = some ob) (hbc : ob.cls = .ref C)
    (hi : PySem.W.findIn K (.ref C) (dunder nm) = some (some (.ref f))) (hf : PySem.W.isFn K (.ref f) = true)
    (h : wpAny (model prog w) A (call (.ref f) [.ref a, .ref b]) (fun v s' => v ≠ .notImplemented ∧ Q (some v) s') E s) : wpAny (model prog w) A (binaryOp1 nm (.ref a) (.ref b)) Q E s := by
  have ht : ∀ {α : Type} {x : α}, True := fun {_ _} => trivial
  obtain ⟨hh, g, d, t, os⟩ := s
  simp only [binaryOp1]
  refine wpAny_bind ((NwA.type_at ha hac).at (wpAny_bind ((NwA.type_at hb hbc).at (wpAny_bind (fills_own X hm hi ?_)))))
  simp only [beq_self_eq_true, if_true, pure_bind, Bool.and_false, Bool.false_and, Bool.false_eq_true, if_false]
  exact wpAny_bind (try_own X ha hac hi hf (wpAny_mono h (fun v s' ⟨hn, hq⟩ => ⟨hn, wpAny_pure hq⟩) fun _ _ z => z))
end
section
variable {X : Cx} {CX : CXT} {k : Nat} {f C : Addr} {fd : FuncData} {ps : List Str} {sp : Sp} {E : XK}
theorem relV_ni {v : V} {u : Value} (r : RelV v u) : u ≠ .notImplemented := fun z => by
  subst z
  cases v <;> first | (obtain ⟨_, e⟩ := r; cases e) | cases r
theorem ins_obj {P : Program} {w : World} {H : Hp} {h : Heap} {a C dx : Addr} {fs : List (Str × V)} (hok : HOk P w H h) (e : H a = some (.ins C dx fs)) : ∃ oa, h.get? a = some oa ∧ oa.cls = .ref C := by
  obtain ⟨mA, O, r, _, _, _⟩ := ins_get hok e
  exact ⟨_, O.obj, rfl⟩
/-- a + b of instances of C -/
def rOwnB (C : Addr) (sp : Sp) (E : XK) : R2 := fun x y H Q => ∃ a dx fs b dy gs, x = .ref a ∧ y = .ref b ∧ H a = some (.ins C dx fs) ∧ H b = some (.ins C dy gs) ∧ sp [.ref a, .ref b] H Q E
theorem op_ownAdd (hm : mroHd X.K C = true) (mt : Meth X.K C "__add__" f) (F : FnOk X.prog X.w X.K X.mg X.base CX k f fd ps sp) (hb : Binds X.K fd ps []) (hr : Room k X.A) (hx : Passes CX X E) : OpR X (binaryOp .Add) (rOwnB C sp E) := by
  intro pins s σ H x y v u Q I rx ry h
  obtain ⟨a, dx, fs, b, dy, gs, rfl, rfl, ea, eb, q⟩ := h
  obtain rfl : v = Value.ref a := rx
  obtain rfl : u = Value.ref b := ry
  obtain ⟨oa, ha, hac⟩ := ins_obj I.hok ea
  obtain ⟨ob, hb', hbc⟩ := ins_obj I.hok eb
  unfold binaryOp
  refine wpAny_holding (wpAny_bind (bin1_own (nm := "add") (C := C) (f := f) I.kIn hm ha hac hb' hbc mt.at_ mt.fn ?_))
  refine thn (run_fn (us := [.ref a, .ref b]) (vs := [.ref a, .ref b]) F hr hb .nil hx I (.cons rfl (.cons rfl .nil)) q) fun v s' e => ?_
  have ev := e
  obtain ⟨vv, H', I', rv, _⟩ := e
  exact ⟨relV_ni rv, wpAny_pure ev⟩
/-- len(a), a an instance of C with its own __len__ -/
theorem call_lenOwn (mt : Meth X.K C "__len__" f) (F : FnOk X.prog X.w X.K X.mg X.base CX k f fd ps sp) (hb : Binds X.K fd ps []) (hr : Room (k + 1) X.A) (hx : Passes CX X.nox E) :
    CallR X (.builtin "len") (fun xs H Q => ∃ a dx fs, xs = [.ref a] ∧ H a = some (.ins C dx fs) ∧ sp [.ref a] H (fun v H' => ∃ n : Nat, v = .int n ∧ n < 2 ^ 62 ∧ Q (.int n) H') E) := by
  intro pins s σ H xs us Q I r h
  obtain ⟨a, dx, fs, rfl, ea, q⟩ := h
  obtain ⟨u, rfl, ru⟩ := r.one
  obtain rfl : u = Value.ref a := ru
  obtain ⟨oa, ha, hac⟩ := ins_obj I.hok ea
  refine Calls.call_function_entry kind_len plain_len entry_len (args_len1 _) ?_
  have X0 := I.kIn
  have run : codeAny (model X.prog X.w) X.A.in1 (.call (.ref f) ⟨[.ref a], []⟩) (CR CX X.stack X.prog X.w H s (fun v H' => ∃ n : Nat, v = .int n ∧ n < 2 ^ 62 ∧ Q (.int n) H') E) s := by
    refine F.run X.A.in1 X.stack s H ⟨[.ref a], []⟩ [.ref a] [.ref a] _ E hr.in1 I.env0.in1 (hb s [.ref a] X0 ?_) (.cons rfl .nil) q
    have e := F.len _ _ _ _ q
    exact e
  have sp1 : PySem.W.Looks (model X.prog X.w) s.heap (specialOf (.ref a) (PySem.Str.ofString "__len__")) (some (.ref f)) := (NwA.type_at ha hac).andThen (PySem.W.looks_findIn X0 mt.at_)
  unfold Builtin.«len»
  refine wpAny_bind (m := oneArg "len" _) (wpAny_pure ?_)
  obtain ⟨hh, g, d, t, os⟩ := s
  refine wpAny_bind (m := callSpecial? (.ref a) (PySem.Str.ofString "__len__")) ?_
  unfold callSpecial?
  refine wpAny_bind (sp1.at ?_)
  refine wpAny_holding (wpAny_bind ((PySem.W.bind_fn X0 _ (beq_iff_eq.mp mt.fn)).at ?_))
  refine wpAny_bind (wpAny_call (codeAny_mono run fun r s' hq => ?_))
  cases r with
  | error er => exact False.elim (hx pins σ H _ er s' (I.wish _) hq)
  | ok fl =>
    cases fl with
    | ret u =>
      obtain ⟨v, H', I3, rv, n, rfl, hn, q3⟩ := I.after hq
      obtain ⟨tn, rfl⟩ := rv
      refine wpAny_pure ?_
      show wpAny _ _ (holding [Value.int (n : Int) tn] (asIndex (Value.int (n : Int) tn)) >>= _) _ _ _
      refine wpAny_bind (wpAny_holding (wpAny_pure ?_))
      refine wpAny_bind (wpAny_letGo ?_)
      have n0 : ¬ (((n : Nat) : Int) < 0) := by omega
      have n1 : ¬ (((n : Nat) : Int) ≥ 2 ^ 63) := by
        have : (n : Int) < 2 ^ 62 := by exact_mod_cast hn
        omega
      simp only [n0, n1, if_false]
      exact wpAny_bind (wpAny_mkInt (wpAny_pure ⟨_, rfl, ⟨.int (n : Int), H', I3.tok _, ⟨_, rfl⟩, q3⟩⟩))
    | next => exact False.elim hq
    | brk => exact False.elim hq
    | cont => exact False.elim hq
end
section
variable {X : Cx} {CX : CXT} {k i : Nat} {f C : Addr} {fd : FuncData} {ps : List Str} {sp : Sp} {E : XK} {x : Str} {e : Expr} {es : List Expr} {t : TA} {te : TE} {p pos sq : Pos}
theorem toR {P : Program} {w : World} {K : PySem.W.Frag} {mg : Str → Option Value} {base : Heap} (F : FnOk P w K mg base CX k f fd ps sp) (hb : Binds K fd ps []) : FnR P w K mg base CX k f sp := by
  intro A outer s H us vs Q E hr e0 r h
  have hl : us.length = ps.length := by rw [← r.length]; exact F.len _ _ _ _ h
  have KX : K.In s.heap := e0.mod.kin.keeps fun b o q => (e0.bs b o q).1
  have z := hb s us KX (by rw [List.append_nil]; exact hl)
  rw [List.append_nil] at z
  exact F.run A outer s H ⟨us, []⟩ us vs Q E hr e0 z r h
/-- x(e, ..), x a name of the def that holds the class at C -/
def tMakeL (C : Addr) (i : Nat) (sp : Sp) (E : XK) (t : TA) : TE := fun σ H Q => σ[i]? = some (some (.ref C)) ∧ tMakeR C sp E t σ H Q
theorem pe_makeL (M : Mk X.K C f) (F : FnR X.prog X.w X.K X.mg X.base CX k f sp) (hr : Room (k + 1) X.A) (hN : X.N[i]? = some x) (hv : Vis X.env.scope x) (hx : Passes CX X E) (ha : PA X (e :: es) t)
    (hdb : (x == ("__debug__" : Str)) = false := by decide) (hcd : (x == ("__classdict__" : Str)) = false := by decide)
    (he : starEach (e :: es) X.env = (false, eval e X.env) :: starEach es X.env := by rfl) (hpl : (backTo pos (starEach es X.env)).any (·.1) = false := by rfl) : PE X (.Call (.Name x p) (e :: es) [] pos) (tMakeL C i sp E t) := by
  refine ⟨fun pins s σ H Q I h => ?_⟩
  obtain ⟨hs, ht⟩ := h
  refine wpAny_Call_Name_kw (thn ((pe_var (pos := p) hN hv hdb hcd).run pins s σ H (fun v Hy => v = .ref C ∧ Hy = H) I ⟨.ref C, hs, rfl, rfl⟩) fun u sy ⟨v, Hy, Iy, ry, qy⟩ => ?_)
  obtain ⟨rfl, rfl⟩ := qy
  obtain rfl : u = Value.ref C := ry
  exact PySem.W.callWith_K (h₀ := X.base) I.ok.mod.kin M.kp (thn (ha.run pos pins sy σ _ _ Iy ht) fun us sz ⟨vs, Hz, Iz, r, q⟩ => ⟨Iz.kIn, run_makeR M F hr hx Iz r q⟩) he hpl
/-- x(), x the class at C -/
theorem pe_makeR0 (M : Mk X.K C f) (F : FnR X.prog X.w X.K X.mg X.base CX k f sp) (hr : Room (k + 1) X.A) (hg : Gl X x) (hm : X.mg x = some (.ref C)) (hx : Passes CX X E) (hdb : (x == ("__debug__" : Str)) = false := by decide) :
    PE X (.Call (.Name x p) [] [] pos) (tMakeR C sp E tNil) := by
  refine ⟨fun pins s σ H Q I h => ?_⟩
  refine wpAny_Call_Name_kw (ld_glob I hg hm ?_ hdb)
  exact PySem.W.callWith_K0 I.kIn M.kp (run_makeR (us := []) (vs := []) M F hr hx I .nil h)
/-- x(*e), x the class at C -/
def tMakeSt (K : PySem.W.Frag) (C : Addr) (sp : Sp) (E : XK) (te : TE) : TE := fun σ H Q => te σ H fun y H1 => ∃ a xs, y = V.ref a ∧ (SqT K H1 a xs ∨ SqL K H1 a xs) ∧
  ∀ x dx, H1 x = Option.none → H1 dx = Option.none → dx ≠ x → sp (V.ref x :: xs) (upd (upd H1 dx (.own x)) x (.ins C dx [])) (fun v H2 => v = .non ∧ Q (.ref x) H2) E
theorem pe_makeSt (M : Mk X.K C f) (F : FnR X.prog X.w X.K X.mg X.base CX k f sp) (hr : Room (k + 1) X.A) (hg : Gl X x) (hm : X.mg x = some (.ref C)) (hx : Passes CX X E) (he : PE X e te) (hdb : (x == ("__debug__" : Str)) = false := by decide)
    (hst : starEach [.Starred e sq] X.env = [(true, eval e X.env)] := by rfl) : PE X (.Call (.Name x p) [.Starred e sq] [] pos) (tMakeSt X.K C sp E te) := by
  refine ⟨fun pins s σ H Q I h => ?_⟩
  refine wpAny_Call_Name_kw (ld_glob I hg hm ?_ hdb)
  refine PySem.W.callWith_S (h₀ := X.base) I.ok.mod.kin M.kp (thn (he.run pins s σ H _ I h) fun v sy ⟨y, Hy, Iy, ry, a, xs, ey, hxs, q⟩ => ?_) hst
  subst ey
  obtain rfl : v = Value.ref a := ry
  exact star_any Iy hxs fun us sz Iz rv => ⟨Iz.kIn, run_makeR M F hr hx Iz rv q⟩
/-- nothing is raised there -/
theorem passNo {P : Program} {w : World} (hp : X.prog = P) (hw : X.w = w) : Passes (L2.CX P w) X (fun _ _ _ => False) := fun pins σ H s e s' I c => by
  obtain ⟨_, _, _, _, _, _, _, _, _, _, _, _, z⟩ := c
  exact z.elim
/-- lcm(i, j) -/
def rLcm : List V → Hp → VK → Prop := fun vs H Q => ∃ i j : Nat, vs = [.int i, .int j] ∧ i < 2 ^ 62 ∧ j < 2 ^ 62 ∧ Q (.int ((Nat.lcm i j : Nat) : Int)) H
theorem cr_lcm : CallR X (.builtin "math.lcm") rLcm := by
  intro pins s σ H vs us Q I r h
  obtain ⟨i, j, rfl, hi, hj, q⟩ := h
  obtain ⟨u1, u2, rfl, r1, r2⟩ := r.two
  obtain ⟨t1, rfl⟩ := r1
  obtain ⟨t2, rfl⟩ := r2
  have e1 : ((i : Int)).natAbs = i := rfl
  have e2 : ((j : Int)).natAbs = j := rfl
  exact PySem.W.mc_lcm (by rw [e1]; exact Nat.lt_trans hi (by decide)) (by rw [e2]; exact Nat.lt_trans hj (by decide)) fun _ => ⟨.int _, H, I.tok _, ⟨_, rfl⟩, q⟩
end
end Ru

set_option maxHeartbeats 4000000
/-! a != b of instances of a class with its own __eq__; t * 1; max of a tuple of ints -/
namespace Ru
open PySem PySem.Spec PyProof.Rows L2 StX
section
variable {X : Cx} {CX : CXT} {k : Nat} {f C : Addr} {fd : FuncData} {ps : List Str} {sp : Sp} {E : XK}
/-- what the class says of == and != -/
structure NeC (K : PySem.W.Frag) (C f : Addr) : Prop where
  ne : PySem.W.findIn K (.ref C) "__ne__" = some (some (.builtin "object.__ne__"))
  eq : PySem.W.findIn K (.ref C) "__eq__" = some (some (.ref f))
  fn : PySem.W.isFn K (.ref f) = true
  mks : PySem.W.makesIn K C = true
def rOwnN (C : Addr) (sp : Sp) (E : XK) : R2 := fun x y H Q => ∃ a dx fs b dy gs, x = .ref a ∧ y = .ref b ∧ H a = some (.ins C dx fs) ∧ H b = some (.ins C dy gs) ∧ sp [.ref a, .ref b] H (fun v H' => ∃ c, v = .bl c ∧ Q (.bl (!c)) H') E
theorem op_ownNe (mt : NeC X.K C f) (F : FnOk X.prog X.w X.K X.mg X.base CX k f fd ps sp) (hb : Binds X.K fd ps []) (hr : Room (k + 1) X.A) (hx : Passes CX X E) : OpR X (compareOp .NotEq) (rOwnN C sp E) := by
  intro pins s σ H x y v u Q I rx ry h
  obtain ⟨a, dx, fs, b, dy, gs, rfl, rfl, ea, eb, q⟩ := h
  obtain rfl : v = Value.ref a := rx
  obtain rfl : u = Value.ref b := ry
  obtain ⟨mA, J, _⟩ := ins_get I.hok ea
  obtain ⟨mB, J', _⟩ := ins_get I.hok eb
  obtain ⟨od, J, _⟩ := J.look
  obtain ⟨od', J', _⟩ := J'.look
  have X0 := I.kIn
  have hu : X.A.units + 1 < cLine := by
    have := hr.in1.units0
    exact this
  have run : codeAny (model X.prog X.w) X.A.in1 (.call (.ref f) ⟨[.ref a, .ref b], []⟩) (CR CX X.stack X.prog X.w H s (fun v H' => ∃ c, v = .bl c ∧ Q (.bl (!c)) H') E) s := by
    refine F.run X.A.in1 X.stack s H ⟨[.ref a, .ref b], []⟩ [.ref a, .ref b] [.ref a, .ref b] _ E hr.in1 I.env0.in1 ?_ (.cons rfl (.cons rfl .nil)) q
    have e := F.len _ _ _ _ q
    have z := hb s [.ref a, .ref b] X0 (by simpa using e)
    simpa using z
  have top : PySem.W.Looks (model X.prog X.w) s.heap (isInstance (.ref a) (.type "object")) true := J.type.andThen (PySem.W.makes_of X0 mt.mks).top
  have hu1 : X.A.in1.units < cLine := hr.in1.units0
  have hcall : wpAny (model X.prog X.w) X.A.in1 (call (.ref f) (.ref a :: [.ref b])) (fun v s' => ∃ c, v = .bool c ∧ EP X pins σ Q (.bool (!c)) s') X.xe s := by
    refine wpAny_call (codeAny_mono run fun r s' hq => ?_)
    cases r with
    | error e => exact hx pins σ H s e s' I hq
    | ok fl =>
      cases fl with
      | ret u =>
        obtain ⟨v, H', I3, rv, c, rfl, q3⟩ := I.after hq
        obtain rfl : u = Value.bool c := rv
        exact ⟨c, rfl, .bl (!c), H', I3, rfl, q3⟩
      | next => exact False.elim hq
      | brk => exact False.elim hq
      | cont => exact False.elim hq
  have body : wpAny (model X.prog X.w) X.A (tryCompare (.ref a) "__ne__" (.ref b)) (fun r s' => ∃ v, r = some v ∧ EP X pins σ Q v s') X.xe s := by
    unfold tryCompare callSpecialIfBound? bindSpecialIfBound?
    refine wpAny_bind (wpAny_holding (wpAny_bind (wpAny_bind (wpAny_bind (J.type.here ((PySem.W.looks_findIn X0 mt.ne).here ?_))))))
    simp only [PySem.F.cmp_object.ne.bind]
    have two : wpAny (model X.prog X.w) X.A (call (.builtin "object.__ne__") [.ref a, .ref b]) (fun v s' => ∃ c, v = .bool c ∧ EP X pins σ Q v s') X.xe s := by
      refine wpAny_call (codeAny_call_builtin PySem.F.cmp_object.ne.plain PySem.F.cmpEntry_ne (PySem.W.check_slot PySem.F.cmpKind_ne PySem.F.cmpSplit_ne top (PySem.F.cmpArgs_ne _ _) ?_))
      unfold Builtin.«object.__ne__»
      repeat (first
        | with_reducible refine wpAny_cRoomFor (A := X.A.in1) hu1 ?_
        | (refine wpAny_bind (m := callSpecialIfBound? (.ref a) (PySem.Str.ofString "__eq__") [.ref b])
            (PySem.W.ifBound_K X0 J mt.eq mt.fn (wpAny_mono hcall (fun r s' hr => by
              obtain ⟨c, rfl, hq⟩ := hr
              have hq2 : ∃ c', Value.bool (!c) = .bool c' ∧ EP X pins σ Q (.bool (!c)) s' := ⟨_, rfl, hq⟩
              repeat (first | exact hq2 | exact wpAny_pure hq2 | exact wpAny_truthy_bool hq2 | (refine wpAny_bind (m := truthy (.bool _)) (wpAny_truthy_bool ?_)) | wp_step)) fun _ _ e => e)))
        | wp_step)
    have fin : wpAny (model X.prog X.w) X.A (call (.builtin "object.__ne__") ([.ref a] ++ [.ref b]) >>= fun v => pure (some v)) (fun r s' => wpAny (model X.prog X.w) X.A (match r with | some .notImplemented | none => pure none | some v => pure (some v)) (fun r s' => ∃ v, r = some v ∧ EP X pins σ Q v s') X.xe s') X.xe s := by
      refine wpAny_bind (wpAny_mono two (fun v s' h' => ?_) fun _ _ h' => h')
      obtain ⟨c, rfl, e⟩ := h'
      exact wpAny_pure (wpAny_pure ⟨_, rfl, e⟩)
    refine wpAny_bind (wpAny_askSetting (wpAny_ite ?_))
    split
    · exact wpAny_bind (wpAny_pure (wpAny_pure fin))
    · exact wpAny_tryCatch (wpAny_bind (wpAny_pure (wpAny_pure fin)))
  show wpAny (model X.prog X.w) X.A (richCompare .NotEq (.ref a) (.ref b)) (EP X pins σ Q) X.xe s
  unfold richCompare
  simp only [oneThing_ref]
  refine wpAny_holding (wpAny_bind (wpAny_cRoomFor (Nat.lt_of_succ_lt hu) ?_))
  refine wpAny_bind (J.type.here (wpAny_bind (J'.type.here ?_)))
  rw [show (Value.ref C != Value.ref C) = false from by simp]
  simp only [Bool.false_eq_true, if_false]
  refine wpAny_bind (wpAny_pure ?_)
  simp only [Bool.false_eq_true, if_false]
  refine wpAny_bind (wpAny_mono body (fun r s' h' => ?_) fun _ _ h' => h')
  obtain ⟨v, rfl, e⟩ := h'
  exact wpAny_pure e
/-- t * 1 is t -/
theorem tuple_mul1 (l : Addr) (items : Array Value) (n : Nat) (dd : Option Addr) (sl : Array (Option Value)) (u : Tok) :
    Meets (Builtin.«tuple.__mul__» ⟨[.ref l, .int 1 u], []⟩) (fun _ R s => s.heap.get? l = some { cls := .type "tuple", dict := dd, data := .seq items n, slots := sl } ∧ R (.ok (.ret (Value.ref l))) s) :=
  .of_wp fun prog w A R s h => by
    obtain ⟨hp, g, d, tk, os⟩ := s
    obtain ⟨hl, h⟩ := h
    have f1 := AutoSeq1.idx_int
    wp_walk using wpAny_loadPart' hl
    repeat (first
      | (refine wpAny_ite_false (decide_eq_false (by decide)) ?_; wp_walk using wpAny_loadPart' hl)
      | (refine wpAny_ite_true (decide_eq_true (by simp)) ?_; wp_walk using wpAny_loadPart' hl))
    exact ⟨_, rfl, h⟩
def rRepA (K : PySem.W.Frag) : R2 := fun x y H Q => rRepT K x y H Q ∨ ∃ l xs, x = .ref l ∧ y = .int 1 ∧ SqT K H l xs ∧ Q (.ref l) H
theorem op_repA : OpR X (binaryOp .Mult) (rRepA X.K) := by
  intro pins s σ H x y v u Q I rx ry h
  rcases h with h | ⟨l, xs, rfl, rfl, hT, q⟩
  · exact op_repT pins s σ H x y v u Q I rx ry h
  cases rx
  obtain ⟨t, rfl⟩ := ry
  obtain ⟨its, r, ⟨⟨cls, dd, data, sl⟩, ho, hc, n, hd⟩, hs⟩ := I.tuple hT
  simp only at hc hd
  subst hc hd
  refine wpAny_binaryOp_repeat_ref (T := "tuple") (U := "int") (by decide) ⟨_, ho, rfl⟩ (fun s' => typeIs_int s' 1 t) noFill_tuple_mul F.fills_int_mul F.slot_int_rmul repeat_tuple F.slot_int_index.lookup
    (call_meets F.slot_int_rmul (typeIs_int s 1 t) F.entry_int_rmul (F.args_int_rmul_2 _ _) (int_rmul_tuple 1 t l its.toArray n dd sl)
      ⟨ho, rfl, ⟨_, ho, rfl⟩, call_meets F.slot_tuple_mul ⟨_, ho, rfl⟩ F.entry_tuple_mul (F.args_tuple_mul_2 _ _) (tuple_mul1 l its.toArray n dd sl t) ⟨ho, ?_⟩⟩)
  exact ⟨.ref l, H, I, rfl, q⟩
/-- max(t), t a tuple of ints -/
def rMaxT (K : PySem.W.Frag) : List V → Hp → VK → Prop := fun vs H Q => ∃ (a : Addr) (ns : List Int), vs = [V.ref a] ∧ SqT K H a (ns.map V.int) ∧ 0 < ns.length ∧ ∀ m, m ∈ ns → (∀ y, y ∈ ns → y ≤ m) → Q (.int m) H
theorem fold_max : ∀ (r : List Int) (n : Int), (r.foldl max n = n ∨ r.foldl max n ∈ r) ∧ n ≤ r.foldl max n ∧ ∀ y ∈ r, y ≤ r.foldl max n
  | [], n => ⟨.inl rfl, Int.le_refl _, fun y hy => nomatch hy⟩
  | k :: r, n => by
    obtain ⟨a, b, c⟩ := fold_max r (max n k)
    rw [List.foldl_cons]
    refine ⟨?_, by omega, ?_⟩
    · rcases a with a | a
      · rw [a]
        by_cases q : k ≤ n
        · left; omega
        · right; rw [show max n k = k by omega]; exact List.mem_cons_self
      · exact .inr (List.mem_cons_of_mem _ a)
    · intro y hy
      rcases List.mem_cons.mp hy with rfl | hy
      · omega
      · exact c y hy
theorem cr_maxT (hc : X.calm = true) (hu : X.A.units + 1 < cLine) : CallR X (.builtin "max") (rMaxT X.K) := fun pins s σ H vs us Q I r h => by
  obtain ⟨p, ns, rfl, hs, ne, g⟩ := h
  obtain ⟨its, rv, hl, _⟩ := I.tuple hs
  obtain rfl := Vals.ref1 r
  obtain ⟨as, ra⟩ := reads_ints (h := s.heap) rv.ints
  cases ns with
  | nil => exact absurd ne (Nat.lt_irrefl 0)
  | cons n r =>
    refine PySem.W.max_tuple_data (x := .int n) (xs := r.map .int) (I.ok.hd hc) hl (by simpa using ra) (alike_ints (n :: r)) (by rw [show (PyData.int n :: r.map .int) = (n :: r).map PyData.int from rfl, depth_ints]; omega) fun i v h' tk bs hv rd hk => ?_
    rw [PySem.W.maxD_ints] at rd
    generalize em : r.foldl max n = m at rd
    have fm := fold_max r n
    rw [em] at fm
    cases rd with
    | int _ t =>
      refine ⟨.int m, H, I.kept hk, ⟨t, rfl⟩, g m ?_ fun y hy => ?_⟩
      · rcases fm.1 with q | q
        · rw [q]; exact List.mem_cons_self
        · exact List.mem_cons_of_mem _ q
      · rcases List.mem_cons.mp hy with rfl | hy
        · exact fm.2.1
        · exact fm.2.2 y hy
end
end Ru

set_option maxHeartbeats 4000000
/-! own operators: -a, a - b, a * n, a == b of a class's own defs -/
namespace Ru
open PySem PySem.Spec PyProof.Rows L2 StX
section
variable {X : Cx} {CX : CXT} {k : Nat} {f C : Addr} {fd : FuncData} {ps : List Str} {sp : Sp} {E : XK}
/-- -a -/
def rOwn1 (C : Addr) (sp : Sp) (E : XK) : V → Hp → VK → Prop := fun x H Q => ∃ a dx fs, x = .ref a ∧ H a = some (.ins C dx fs) ∧ sp [.ref a] H Q E
theorem un_ownNeg (mt : Meth X.K C "__neg__" f) (F : FnOk X.prog X.w X.K X.mg X.base CX k f fd ps sp) (hb : Binds X.K fd ps []) (hr : Room k X.A) (hx : Passes CX X E) : UnR X (unaryOp .USub) (rOwn1 C sp E) := by
  intro pins s σ H x v Q I rx h
  obtain ⟨a, dx, fs, rfl, ea, q⟩ := h
  obtain rfl : v = Value.ref a := rx
  obtain ⟨mA, J, _⟩ := ins_get I.hok ea
  obtain ⟨od, J, _⟩ := J.look
  obtain ⟨m, hF⟩ := I.fr
  exact PySem.W.ksp_neg hF I.ok.mod.kin J mt.at_ mt.fn (run_fn (us := [.ref a]) (vs := [.ref a]) F hr hb .nil hx I (.cons rfl .nil) q)
theorem op_ownSub (hm : mroHd X.K C = true) (mt : Meth X.K C "__sub__" f) (F : FnOk X.prog X.w X.K X.mg X.base CX k f fd ps sp) (hb : Binds X.K fd ps []) (hr : Room k X.A) (hx : Passes CX X E) : OpR X (binaryOp .Sub) (rOwnB C sp E) := by
  intro pins s σ H x y v u Q I rx ry h
  obtain ⟨a, dx, fs, b, dy, gs, rfl, rfl, ea, eb, q⟩ := h
  obtain rfl : v = Value.ref a := rx
  obtain rfl : u = Value.ref b := ry
  obtain ⟨oa, ha, hac⟩ := ins_obj I.hok ea
  obtain ⟨ob, hb', hbc⟩ := ins_obj I.hok eb
  unfold binaryOp
  refine wpAny_holding (wpAny_bind (bin1_own (nm := "sub") (C := C) (f := f) I.kIn hm ha hac hb' hbc mt.at_ mt.fn ?_))
  refine thn (run_fn (us := [.ref a, .ref b]) (vs := [.ref a, .ref b]) F hr hb .nil hx I (.cons rfl (.cons rfl .nil)) q) fun v s' e => ?_
  have ev := e
  obtain ⟨vv, H', I', rv, _⟩ := e
  exact ⟨relV_ni rv, wpAny_pure ev⟩
/-- what a * n asks of the class -/
structure MulC (K : PySem.W.Frag) (C f : Addr) : Prop where
  hc : PySem.W.selfFirst K C = true
  hs : PySem.W.findIn K (.ref C) (PySem.dunder "mul") = some (some (.ref f))
  hf : PySem.W.isFn K (.ref f) = true
  hr : PySem.W.findIn K (.ref C) (dunderR "mul") = some none
  h1 : ∃ fo, PySem.W.findIn K (.type "int") (PySem.dunder "mul") = some fo
  h2 : ∃ ro, PySem.W.findIn K (.type "int") (dunderR "mul") = some ro
  hsub : PySem.W.subIn K (.type "int") (.ref C) = some false
/-- a * n -/
def rOwnI (C : Addr) (sp : Sp) (E : XK) : R2 := fun x y H Q => ∃ a dx fs n, x = .ref a ∧ y = .int n ∧ H a = some (.ins C dx fs) ∧ sp [.ref a, .int n] H Q E
theorem op_ownMul (mc : MulC X.K C f) (F : FnOk X.prog X.w X.K X.mg X.base CX k f fd ps sp) (hb : Binds X.K fd ps []) (hr : Room k X.A) (hx : Passes CX X E) : OpR X (binaryOp .Mult) (rOwnI C sp E) := by
  intro pins s σ H x y v u Q I rx ry h
  obtain ⟨a, dx, fs, n, rfl, rfl, ea, q⟩ := h
  obtain rfl : v = Value.ref a := rx
  obtain ⟨t, rfl⟩ := (show ∃ t, u = Value.int n t from ry)
  obtain ⟨mA, J, _⟩ := ins_get I.hok ea
  obtain ⟨od, J, _⟩ := J.look
  obtain ⟨m, hF⟩ := I.fr
  obtain ⟨fo, h1⟩ := mc.h1
  obtain ⟨ro, h2⟩ := mc.h2
  refine PySem.W.ksp_binT (T := "int") hF I.ok.mod.kin J rfl mc.hc mc.hs mc.hf mc.hr (.inl rfl) h1 h2 mc.hsub ?_
  refine thn (run_fn (us := [.ref a, .int n t]) (vs := [.ref a, .int n]) F hr hb .nil hx I (.cons rfl (.cons ⟨t, rfl⟩ .nil)) q) fun v s' z => ?_
  obtain ⟨z', H', I', rz, qz⟩ := z
  exact SlX.cmpback rz ⟨z', H', I', rz, qz⟩
/-- what a == b asks of the class -/
structure EqC (K : PySem.W.Frag) (C f : Addr) : Prop where
  hs : PySem.W.findIn K (.ref C) "__eq__" = some (some (.ref f))
  hf : PySem.W.isFn K (.ref f) = true
  n1 : PySem.W.notFirst K C (.ref C) = true
  n2 : PySem.W.notFirst K C (.type "int") = true
/-- a == b, b of the class or a whole number -/
def rOwnQ (C : Addr) (sp : Sp) (E : XK) : R2 := fun x y H Q => ∃ a dx fs, x = .ref a ∧ H a = some (.ins C dx fs) ∧ ((∃ b dy gs, y = .ref b ∧ H b = some (.ins C dy gs)) ∨ ∃ n, y = .int n) ∧ sp [x, y] H Q E
theorem op_ownEq (mc : EqC X.K C f) (F : FnOk X.prog X.w X.K X.mg X.base CX k f fd ps sp) (hb : Binds X.K fd ps []) (hr : Room k X.A) (hx : Passes CX X E) : OpR X (compareOp .Eq) (rOwnQ C sp E) := by
  intro pins s σ H x y v u Q I rx ry h
  obtain ⟨a, dx, fs, rfl, ea, alt, q⟩ := h
  obtain rfl : v = Value.ref a := rx
  obtain ⟨mA, J, _⟩ := ins_get I.hok ea
  obtain ⟨od, J, _⟩ := J.look
  obtain ⟨m, hF⟩ := I.fr
  have go : ∀ tb : Value, PySem.W.Looks (model X.prog X.w) s.heap (typeOf u) tb → PySem.W.notFirst X.K C tb = true → wpAny (model X.prog X.w) X.A (richCompare .Eq (.ref a) u) (EP X pins σ Q) X.xe s := fun tb ht hn => by
    refine PySem.W.cmp_K (op := .Eq) (tb := tb) hr.units0 hF I.ok.mod.kin J ht hn mc.hs mc.hf ?_
    refine thn (run_fn (us := [.ref a, u]) (vs := [.ref a, y]) F hr hb .nil hx I (.cons rfl (.cons ry .nil)) q) fun v s' z => ?_
    obtain ⟨z', H', I', rz, qz⟩ := z
    exact SlX.cmpback rz ⟨z', H', I', rz, qz⟩
  show wpAny _ _ (richCompare .Eq (.ref a) u) _ _ _
  rcases alt with ⟨b, dy, gs, rfl, eb⟩ | ⟨n, rfl⟩
  · obtain rfl : u = Value.ref b := ry
    obtain ⟨mB, J', _⟩ := ins_get I.hok eb
    obtain ⟨od', J', _⟩ := J'.look
    exact go _ J'.type mc.n1
  · obtain ⟨t, rfl⟩ := (show ∃ t, u = Value.int n t from ry)
    exact go (.type "int") (PySem.W.Looks.of_pure rfl) mc.n2
end
end Ru

set_option maxHeartbeats 4000000
/-! RuU: super().m(..) as the first thing in a method -/
namespace Ru
open PySem PySem.Spec PyProof.Rows L2 NdefX ClX
/-- what super() in the def fd of the class at D, at f, asks; g: the m that it finds -/
structure SuT (P : Program) (K : PySem.W.Frag) (mg : Str → Option Value) (m : Str) (D f cc cda g : Addr) (fd : FuncData) : Prop where
  lk : ∃ oc od osl, K.lookup f = some ⟨oc, od, .func fd, osl⟩
  cell : ∃ cl cld csl, K.lookup cc = some ⟨cl, cld, .cell (some (.ref D)), csl⟩
  code : ∃ ccl cdd vs ccs file tf, K.lookup cda = some ⟨ccl, cdd, .fields vs, ccs⟩ ∧ vs[2]? = some (.str file tf) ∧ ((P.main.file : Str) == file) = true
  any : PySem.W.nsIn K cStatics "thirdparty.any" = some none
  noS : mg "super" = none
  top : (P.main.scope.names.lookup ("super" : Str)).isSome = false
  isC : ∃ cd, PySem.W.clsIn K D = some cd
  mr : PySem.W.mroIn K D (.ref D) = some true
  su : PySem.W.ks_superIn K D D m = some (some (.ref g))
  ty : PySem.W.typeIn K (.ref g) = some (.type "function")
  fn : PySem.W.fnIn K g = true
/-- an expression, where it is known that the code that runs is a def's body -/
def PEAt (X : Cx) (body : List Stmt) (e : Expr) (te : TE) : Prop := ∀ (pins : List (Addr × Obj)) (s : Shared) (σ : L2.St) (H : Hp) (Q : VK), Inv X pins σ H s → te σ H Q → _root_.PySem.wpAt (model X.prog X.w) X.A (.func body X.env) (eval e X.env) (EP X pins σ Q) X.xe s
def PSsAt (X : Cx) (body sts : List Stmt) (t : TS) : Prop := ∀ (pins : List (Addr × Obj)) (s : Shared) (σ : L2.St) (H : Hp) (D : Ends), Inv X pins σ H s → t D σ H → _root_.PySem.wpAt (model X.prog X.w) X.A (.func body X.env) (execs sts X.env) (SP X pins D) X.xe s
/-- super().m(..): self's class at D, its own def's promise sp -/
def tSuper (D : Addr) (sp : Sp) (E : XK) (t : TA) : TE := fun σ H Q => ∃ x dx fs, σ[0]? = some (some (.ref x)) ∧ H x = some (.ins D dx fs) ∧ t σ H fun us H1 => sp (.ref x :: us) H1 Q E
section
variable {X : Cx} {CX : CXT} {k : Nat} {m self : Str} {D f cc cda g : Addr} {fd : FuncData} {ar : Arg} {sp : Sp} {E : XK} {e : Expr} {es : List Expr} {t : TA} {p0 p1 apos pos : Pos} {body : List Stmt}
theorem pe_super (S : SuT X.prog X.K X.mg m D f cc cda g fd) (F : FnR X.prog X.w X.K X.mg X.base CX k g sp) (hr : Room k X.A) (hx : Passes CX X E) (ha : PA X (e :: es) t)
    (hfu : X.env.func = some f) (hco : X.env.code = .ref cda) (hcl : X.env.cells.lookup ("__class__" : Str) = some cc) (hks : X.env.kindOf ("super" : Str) = some .globalImplicit) (hkc : X.env.kindOf ("__class__" : Str) = some .free) (hk : X.env.scope.kind = .function)
    (hg : X.env.globals = mainGlobals) (hb : X.env.builtins = builtinsNs) (hp : (fd.params.posonlyargs ++ fd.params.args).head? = some ar) (hN : X.N[0]? = some ar.arg) (hka : X.env.kindOf ar.arg = some .local) (hm : (m == ("__class__" : Str)) = false)
    (hst : starEach (e :: es) X.env = (false, eval e X.env) :: starEach es X.env := by rfl) (hpl : (backTo pos (starEach es X.env)).any (·.1) = false := by rfl)
    (he : ∃ pl : Sem Bool, eval (.Call (.Attribute (.Call (.Name "super" p0) [] [] p1) m apos) (e :: es) [] pos) X.env = (do
      let ov ← attributeBase (.Call (.Name "super" p0) [] [] p1) m X.env (eval (.Call (.Name "super" p0) [] [] p1) X.env)
      standAt apos.atName
      let (f, first) ← holding [ov] (getMethod ov m pl)
      callWith pos f first (backTo pos (starEach (e :: es) X.env)) [])) :
    PEAt X body (.Call (.Attribute (.Call (.Name "super" p0) [] [] p1) m apos) (e :: es) [] pos) (tSuper D sp E t) := by
  intro pins s σ H Q I h
  obtain ⟨x, dx, fs, hx0, hxi, ht⟩ := h
  obtain ⟨pl, he⟩ := he
  have KX := I.kIn
  obtain ⟨oc, od, osl, lk⟩ := S.lk
  obtain ⟨cl, cld, csl, lcell⟩ := S.cell
  obtain ⟨ccl, cdd, vs, ccs, file, tf, lcode, hvs, hfile⟩ := S.code
  obtain ⟨cd, hcd⟩ := S.isC
  obtain ⟨mb, bn, bb⟩ := I.ok.mod.blt
  obtain ⟨ml, hns, hlook⟩ := I.loc
  have hvis : Vis X.env.scope ar.arg := .inl hka
  obtain ⟨u, ru, lu⟩ := hlook 0 ar.arg (.ref x) hN hx0 hvis
  obtain rfl : u = Value.ref x := ru
  have lu' : ml ar.arg = some (.ref x) := by
    rcases lu with ⟨_, q⟩ | ⟨q, _⟩
    · exact q
    · rw [hka] at q
      rcases q with q | q <;> cases q
  obtain ⟨mA, JA, _⟩ := ins_get I.hok hxi
  obtain ⟨oA, JA, _⟩ := JA.look
  obtain ⟨oD, hD1, hD2⟩ : ∃ oD, s.heap.get? D = some oD ∧ oD.data = .cls cd := by
    have hcd' := hcd
    unfold PySem.W.clsIn at hcd'
    split at hcd'
    · rename_i c d cd' sl ho
      cases hcd'
      exact ⟨_, KX _ _ ho, rfl⟩
    · cases hcd'
  refine PySem.ks_wpAt_MethodCall (pl := pl) ?_ he
  refine PySem.ks_wpAt_super_base (env := X.env) hks hkc hm hfu (KX _ _ lk) rfl hp hco (KX _ _ lcode) rfl hvs hfile S.top ?_
  refine PySem.W.ks_loadName_global hk hks (PySem.Calls.loadGlobal_builtin (env := X.env) (mg := X.mg) (mb := mb) (v := .type "super") (by rw [hg]; exact I.ok.mod.glob.keeps I.bk) S.noS (by rw [hb]; exact bn.keeps I.bk) ((bb _ (by decide +kernel)).trans (by first | boot_by_name | rfl | kernel_rfl)) ⟨rfl, ?_⟩)
  refine wpAny_loadName_free hk hkc hcl ⟨_, KX _ _ lcell, rfl⟩ ?_
  refine wpAny_loadName_local hk hka hns lu' ?_
  refine PySem.ks_wpAny_isType_cls hD1 hD2 ⟨rfl, ?_⟩
  obtain ⟨hp0, gg, dd, tt, oo⟩ := s
  refine PySem.ks_wpAny_call_super hD1 hD2 JA.at_ JA.cls (fun c q => ?_) (PySem.W.looks_mroIn KX S.mr) (fun h' eso kp => ?_)
  · have := JA.no
    unfold PySem.W.notCls at this
    rw [q] at this
    exact Bool.noConfusion this
  have I1 : Inv X ((hp0.objs.size, PySem.W.ks_superObj D x D) :: pins) σ H ⟨h', gg, dd, tt, oo⟩ := pin_new (t' := tt) I kp (Nat.le_refl _) eso (fun v z => nomatch z)
  have KX1 := I1.kIn
  obtain ⟨ofn, hof, hofc⟩ : ∃ ofn, h'.get? g = some ofn ∧ ofn.cls = .type "function" := by
    have hty : (X.K.lookup g).map (·.cls) = some (.type "function") := S.ty
    cases z : X.K.lookup g with
    | none => rw [z] at hty; cases hty
    | some of => rw [z] at hty; exact ⟨of, KX1 _ _ z, Option.some.inj hty⟩
  have hsu := S.su
  unfold PySem.W.ks_superIn at hsu
  rw [hcd] at hsu
  refine PySem.ks_wpAny_getMethod_super (x := x) (D := D) (C := D) (pin_at I1) (PySem.W.looks_opaque KX1 S.any) (l₀ := cd.mro) ?_ rfl KX1 hsu hof hofc (PySem.W.ks_ne KX JA hcd) hm ?_
  · exact fun A Q E s k q => wpAny_bind ((PySem.W.looks_clsIn KX1 hcd) A _ E s k (wpAny_pure q))
  have I2 := met_new (g := g) (C := x) I1
  refine callwith_cm (C := x) I2 (base_none I1 (Nat.le_refl _)) S.fn (thn (ha.run pos _ _ σ H _ I2 ht) fun us s3 ⟨ws, H2, I3, rv, q2⟩ => ⟨⟨pin_at I3, I3.kIn⟩, ?_⟩) hst hpl
  exact thn (run_cm (C := x) F hr hx I3 rv q2) fun _ _ y => unpinE y
end
section
variable {X : Cx} {body rest : List Stmt} {e : Expr} {te : TE} {t : TS} {pos : Pos}
theorem psAt_expr (he : PEAt X body e te) (hr : PSs X rest t) (hi : interactive X.env = false) (hs : swapsWith e none pos.line X.env = pure false := by rfl) : PSsAt X body (.Expr e pos :: rest) (tSeq (tDrop te) t) := by
  intro pins s σ H D I h
  refine PySem.ks_wpAt_execs_cons (PySem.ks_wpAt_Expr_any (hi := hi) (hs := hs) (PySem.ks_wpAt_mono (he pins s σ H _ I h) (fun v s1 z => ?_) fun _ _ z => z))
  obtain ⟨v1, H1, I1, r1, q1⟩ := z
  exact wpAt_of_wpAny (hr.run pins s1 σ H1 D I1 q1)
theorem psAt_ret (he : PEAt X body e te) : PSsAt X body [.Return (some e) pos] (tRet te) := by
  intro pins s σ H D I h
  refine PySem.ks_wpAt_execs_cons (PySem.ks_wpAt_Return_some (PySem.ks_wpAt_mono (he pins s σ H _ I h) (fun v s1 z => ?_) fun _ _ z => z))
  obtain ⟨v1, H1, I1, r1, q1⟩ := z
  exact ⟨v1, σ, H1, I1, r1, q1⟩
end
/-- the promise of a method that begins so -/
theorem fn_super {CX : CXT} {P : Program} {w : World} {K : PySem.W.Frag} {mg : Str → Option Value} {base : Heap} {k : Nat} {f cc cda D : Addr} {name qual : Str} {params : Arguments} {body : List Stmt} {scope : Scope} {dV kV doc pm ct oc cl : Value} {an od cld : Option Addr}
    {osl csl : Array (Option Value)} {N ps : List Str} {sp : Sp} (lk : K.lookup f = some ⟨oc, od, .func (PySem.W.ksFn name qual params body scope dV kV doc pm an (.ref cda) ct cc), osl⟩) (hcd : PySem.W.codeIn K (.ref cda) qual = true) (S : NScope N ps ["__class__"] scope)
    (hcell : K.lookup cc = some ⟨cl, cld, .cell (some (.ref D)), csl⟩) (len : ∀ vs H Q E, sp vs H Q E → vs.length = ps.length)
    (hbody : ∀ (A : Around) (outer : List Env) (s : Shared) (H : Hp) (vs : List V) (Q : VK) (E : XK), Room k (A.deeper (envF ⟨name, qual, params, body, scope, [("__class__", cc)], cda⟩ f s.heap.objs.size)) → sp vs H Q E →
      ∃ t, PSsAt (ncx CX P w K mg base N ⟨name, qual, params, body, scope, [("__class__", cc)], cda⟩ f A outer s H E) body body t ∧ t { nx := fun _ H' => Q .non H', rt := Q } (startF N vs [some (.ref D)]) H) :
    FnOk P w K mg base CX (k + 1) f (PySem.W.ksFn name qual params body scope dV kV doc pm an (.ref cda) ct cc) ps sp := by
  refine ⟨len, fun A outer s H args us vs Q E hr e0 hb r hsp => ?_⟩
  have hl := len _ _ _ _ hsp
  have KX : K.In s.heap := e0.mod.kin.keeps fun b o e => (e0.bs b o e).1
  have lim : s.heap.NoLimit := e0.mod.nolimit.keeps fun b o e => (e0.bs b o e).1
  refine PySem.ks_codeAny_call_defAt (binds := ps.zip us) hr.depth (KX _ _ lk) rfl lim (PySem.W.codeRec_of KX hcd) rfl hb S.nocell (fun ⟨n, v⟩ hy => S.par n (List.of_mem_zip hy).1) (fun h₁ hns kp => ?_) S.co S.gen S.kind
  obtain ⟨t, ht, hq⟩ := hbody A outer s H vs Q E (hr.deeper _) hsp
  have C : NdefX.CellsAt [("__class__", cc)] ["__class__"] [some (.ref D)] s.heap H := {
    len := rfl
    all := fun y c e => by
      have e1 : c = cc := by
        simp only [List.lookup] at e
        split at e
        · exact (Option.some.inj e).symm
        · cases e
      subst e1
      exact ⟨(e0.bs _ _ (e0.mod.kin _ _ hcell)).2, _, ⟨_, KX _ _ hcell, rfl⟩⟩
    inj := fun x y c e1 e2 => by
      have g : ∀ {z : Str}, List.lookup z [(("__class__" : Str), cc)] = some c → z = "__class__" := fun {z} e => by
        simp only [List.lookup] at e
        split at e
        · rename_i q; exact eq_of_beq q
        · cases e
      rw [g e1, g e2]
    has := fun i y e => by
      match i, e with
      | 0, e =>
        cases e
        exact ⟨cc, by simp [List.lookup], fun v hv => by cases hv; exact ⟨.ref D, rfl, ⟨_, KX _ _ hcell, rfl⟩⟩⟩ }
  have I : Inv (ncx CX P w K mg base N ⟨name, qual, params, body, scope, [("__class__", cc)], cda⟩ f A outer s H E) [] (startF N vs [some (.ref D)]) H { s with heap := h₁, toks := s.toks + (ps.zip us).length } := inv_startN (F := ⟨name, qual, params, body, scope, [("__class__", cc)], cda⟩) S hr.hd e0 hl r C hns kp
  refine PySem.ks_wpAt_mono (ht [] _ _ H _ I hq) (fun fl s' hs => ?_) fun e s' hs => hs
  have fin : ∀ {σ' : L2.St} {H' : Hp} {v : V} {u : Value}, Inv (ncx CX P w K mg base N ⟨name, qual, params, body, scope, [("__class__", cc)], cda⟩ f A outer s H E) [] σ' H' s' → L2.RelV v u → Q v H' → CE outer P w H s Q u s' :=
    fun {σ' H' v u} J rv q => ⟨v, H', J.os, J.bare, J.base, J.hok, rv, q⟩
  cases fl with
  | ret u => obtain ⟨v, σ', H', J, rv, q⟩ := hs; exact fin J rv q
  | next => obtain ⟨σ', H', J, q⟩ := hs; exact fin (v := V.non) (u := Value.none) J rfl q
  | brk => obtain ⟨_, _, _, q⟩ := hs; exact q.elim
  | cont => obtain ⟨_, _, _, q⟩ := hs; exact q.elim
end Ru

namespace W6
open PySem PySem.Spec PyProof.Rows L2
def top (i : Nat) : Stmt := PySem.Challenge.pw_warmswitch_k41_settings_tick_by_tick.main.body.getD i (.Pass ⟨0, 0, 0, 0⟩)
abbrev s_first_invalid : Stmt := top 3
abbrev s_added_rounds : Stmt := top 6
abbrev s_heater_state : Stmt := top 8
abbrev s_check_number : Stmt := top 14
abbrev s_Weather_init : Stmt := inClass (top 17) 2
abbrev s_Weather_len : Stmt := inClass (top 17) 5
abbrev s_Weather_getitem : Stmt := inClass (top 17) 6
abbrev s_Weather_add : Stmt := inClass (top 17) 10
abbrev s_Weather_mul : Stmt := inClass (top 17) 13
abbrev s_can_be_thresholds : Stmt := top 21
abbrev s_Setting_init : Stmt := inClass (top 25) 1
abbrev s_Setting_thresholds : Stmt := inClass (top 25) 2
abbrev s_Setting_lets_switch : Stmt := inClass (top 25) 3
abbrev s_HourSetting_init : Stmt := inClass (top 26) 2
abbrev s_HourSetting_thresholds : Stmt := inClass (top 26) 3
abbrev s_RestSetting_init : Stmt := inClass (top 27) 1
abbrev s_RestSetting_thresholds : Stmt := inClass (top 27) 2
abbrev s_RestSetting_lets_switch : Stmt := inClass (top 27) 3
abbrev s_first_invalid_part : Stmt := top 28
abbrev s_watch : Stmt := top 29
abbrev s_totals : Stmt := top 30
abbrev s__law_start : Stmt := top 32
abbrev s__law_drawn : Stmt := top 33
abbrev s__law_same : Stmt := top 34
abbrev s__law_outcome : Stmt := top 35
abbrev s__law_changes : Stmt := top 36
abbrev s__law_weather : Stmt := top 37
abbrev s__law_single : Stmt := top 38
abbrev s__law_parts : Stmt := top 39
abbrev s__law_setting : Stmt := top 40
abbrev s__law_watched : Stmt := top 41
abbrev s__law_refused : Stmt := top 42
abbrev s_law : Stmt := top 43
abbrev s_Weather_changes : Stmt := inClass (top 17) 4
theorem sc_first_invalid : FnScope ["values", "least", "greatest", "most", "index", "value"] ["values", "least", "greatest", "most"] (defScope s_first_invalid) := ⟨rfl, rfl, rfl, by decide +kernel, rfl, by decide +kernel, by decide +kernel⟩
theorem sc_added_rounds : FnScope ["one", "other", "many", "tick"] ["one", "other"] (defScope s_added_rounds) := ⟨rfl, rfl, rfl, by decide +kernel, rfl, by decide +kernel, by decide +kernel⟩
theorem sc_heater_state : FnScope ["degrees", "low", "high", "before"] ["degrees", "low", "high", "before"] (defScope s_heater_state) := ⟨rfl, rfl, rfl, by decide +kernel, rfl, by decide +kernel, by decide +kernel⟩
theorem sc_check_number : FnScope ["number", "least", "greatest"] ["number", "least", "greatest"] (defScope s_check_number) := ⟨rfl, rfl, rfl, by decide +kernel, rfl, by decide +kernel, by decide +kernel⟩
theorem sc_Weather_init : FnScope ["self", "changes", "index"] ["self", "changes"] (defScope s_Weather_init) := ⟨rfl, rfl, rfl, by decide +kernel, rfl, by decide +kernel, by decide +kernel⟩
theorem sc_Weather_len : FnScope ["self"] ["self"] (defScope s_Weather_len) := ⟨rfl, rfl, rfl, by decide +kernel, rfl, by decide +kernel, by decide +kernel⟩
theorem sc_Weather_getitem : FnScope ["self", "at"] ["self", "at"] (defScope s_Weather_getitem) := ⟨rfl, rfl, rfl, by decide +kernel, rfl, by decide +kernel, by decide +kernel⟩
theorem sc_Weather_add : FnScope ["self", "other", "both"] ["self", "other"] (defScope s_Weather_add) := ⟨rfl, rfl, rfl, by decide +kernel, rfl, by decide +kernel, by decide +kernel⟩
theorem sc_Weather_mul : FnScope ["self", "times", "multiplied", "change"] ["self", "times"] (defScope s_Weather_mul) := ⟨rfl, rfl, rfl, by decide +kernel, rfl, by decide +kernel, by decide +kernel⟩
theorem sc_can_be_thresholds : FnScope ["low", "high"] ["low", "high"] (defScope s_can_be_thresholds) := ⟨rfl, rfl, rfl, by decide +kernel, rfl, by decide +kernel, by decide +kernel⟩
theorem sc_Setting_init : FnScope ["self", "low", "high"] ["self", "low", "high"] (defScope s_Setting_init) := ⟨rfl, rfl, rfl, by decide +kernel, rfl, by decide +kernel, by decide +kernel⟩
theorem sc_Setting_thresholds : FnScope ["self", "tick"] ["self", "tick"] (defScope s_Setting_thresholds) := ⟨rfl, rfl, rfl, by decide +kernel, rfl, by decide +kernel, by decide +kernel⟩
theorem sc_Setting_lets_switch : FnScope ["self", "tick", "last"] ["self", "tick", "last"] (defScope s_Setting_lets_switch) := ⟨rfl, rfl, rfl, by decide +kernel, rfl, by decide +kernel, by decide +kernel⟩
theorem sc_HourSetting_init : FnScope ["self", "length", "parts", "index"] ["self", "length", "parts"] (defScope s_HourSetting_init) := ⟨rfl, rfl, rfl, by decide +kernel, rfl, by decide +kernel, by decide +kernel⟩
theorem sc_HourSetting_thresholds : FnScope ["self", "tick", "hour", "begun", "begin", "low", "high"] ["self", "tick"] (defScope s_HourSetting_thresholds) := ⟨rfl, rfl, rfl, by decide +kernel, rfl, by decide +kernel, by decide +kernel⟩
theorem sc_RestSetting_init : NdefX.NScope ["self", "low", "high", "rest", "__class__"] ["self", "low", "high", "rest"] ["__class__"] (defScope s_RestSetting_init) := NdefX.nscope_by (by decide +kernel)
theorem sc_RestSetting_thresholds : NdefX.NScope ["self", "tick", "__class__"] ["self", "tick"] ["__class__"] (defScope s_RestSetting_thresholds) := NdefX.nscope_by (by decide +kernel)
theorem sc_RestSetting_lets_switch : FnScope ["self", "tick", "last"] ["self", "tick", "last"] (defScope s_RestSetting_lets_switch) := ⟨rfl, rfl, rfl, by decide +kernel, rfl, by decide +kernel, by decide +kernel⟩
theorem sc_first_invalid_part : FnScope ["length", "parts", "before", "index", "begin", "low", "high"] ["length", "parts"] (defScope s_first_invalid_part) := ⟨rfl, rfl, rfl, by decide +kernel, rfl, by decide +kernel, by decide +kernel⟩
theorem sc_watch : GScope ["weather", "gain", "setting", "start", "count", "degrees", "on", "last", "tick", "low", "high", "wanted"] ["weather", "gain", "setting", "start", "count"] (defScope s_watch) := ⟨rfl, rfl, rfl, by decide +kernel, rfl, by decide +kernel, by decide +kernel⟩
theorem sc_totals : FnScope ["weather", "gain", "setting", "start", "count", "heated", "switchings", "least", "before", "degrees", "on"] ["weather", "gain", "setting", "start", "count"] (defScope s_totals) := ⟨rfl, rfl, rfl, by decide +kernel, rfl, by decide +kernel, by decide +kernel⟩
theorem sc__law_start : FnScope ["_law_script", "_law_mixed", "_law_cell"] ["_law_script"] (defScope s__law_start) := ⟨rfl, rfl, rfl, by decide +kernel, rfl, by decide +kernel, by decide +kernel⟩
theorem sc__law_drawn : FnScope ["_law_state", "_law_count", "_law_result", "_law_cell"] ["_law_state", "_law_count"] (defScope s__law_drawn) := ⟨rfl, rfl, rfl, by decide +kernel, rfl, by decide +kernel, by decide +kernel⟩
theorem sc__law_same : FnScope ["_law_result", "_law_expected", "_law_k"] ["_law_result", "_law_expected"] (defScope s__law_same) := ⟨rfl, rfl, rfl, by decide +kernel, rfl, by decide +kernel, by decide +kernel⟩
theorem sc__law_outcome : FnScope ["_law_work", "_law_e"] ["_law_work"] (defScope s__law_outcome) := ⟨rfl, rfl, rfl, by decide +kernel, rfl, by decide +kernel, by decide +kernel⟩
theorem sc__law_changes : FnScope ["_law_state", "_law_most", "_law_high", "_law_k"] ["_law_state", "_law_most"] (defScope s__law_changes) := ⟨rfl, rfl, rfl, by decide +kernel, rfl, by decide +kernel, by decide +kernel⟩
theorem sc__law_weather : FnScope ["_law_changes_here", "_law_result", "_law_k"] ["_law_changes_here"] (defScope s__law_weather) := ⟨rfl, rfl, rfl, by decide +kernel, rfl, by decide +kernel, by decide +kernel⟩
theorem sc__law_single : FnScope ["_law_size", "_law_at", "_law_parts_here", "_law_k"] ["_law_size", "_law_at"] (defScope s__law_single) := ⟨rfl, rfl, rfl, by decide +kernel, rfl, by decide +kernel, by decide +kernel⟩
theorem sc__law_parts : FnScope ["_law_state", "_law_length", "_law_begins", "_law_begin", "_law_parts_here", "_law_low"] ["_law_state"] (defScope s__law_parts) := ⟨rfl, rfl, rfl, by decide +kernel, rfl, by decide +kernel, by decide +kernel⟩
theorem sc__law_setting : FnScope ["_law_word", "_law_length", "_law_parts_here", "_law_pause", "_law_low", "_law_high"] ["_law_word", "_law_length", "_law_parts_here", "_law_pause"] (defScope s__law_setting) := ⟨rfl, rfl, rfl, by decide +kernel, rfl, by decide +kernel, by decide +kernel⟩
theorem sc__law_watched : FnScope ["_law_word", "_law_length", "_law_parts_here", "_law_pause", "_law_changes_here", "_law_gain", "_law_start_here", "_law_count", "_law_rows", "_law_warmth", "_law_heating", "_law_last", "_law_tick", "_law_low", "_law_high", "_law_part", "_law_wanted"] ["_law_word", "_law_length", "_law_parts_here", "_law_pause", "_law_changes_here", "_law_gain", "_law_start_here", "_law_count"] (defScope s__law_watched) := ⟨rfl, rfl, rfl, by decide +kernel, rfl, by decide +kernel, by decide +kernel⟩
theorem sc__law_refused : FnScope ["_law_sky", "_law_far", "_law_works", "_law_indexes", "_law_work", "_law_index", "_law_plain"] ["_law_sky"] (defScope s__law_refused) := ⟨rfl, rfl, rfl, by decide +kernel, rfl, by decide +kernel, by decide +kernel⟩
theorem sc_law : FnScope ["_law_script", "_law_state", "_law_turn", "_law_changes_here", "_law_word", "_law_length", "_law_parts_here", "_law_pause", "_law_gain", "_law_start_here", "_law_count", "_law_sky", "_law_setting_here", "_law_rows", "_law_row", "_law_flags", "_law_switched", "_law_k", "_law_least", "_law_tick", "_law_expected", "_law_part"] ["_law_script"] (defScope s_law) := ⟨rfl, rfl, rfl, by decide +kernel, rfl, by decide +kernel, by decide +kernel⟩
theorem sc_Weather_changes : FnScope ["self"] ["self"] (defScope s_Weather_changes) := ⟨rfl, rfl, rfl, by decide +kernel, rfl, by decide +kernel, by decide +kernel⟩
/-- where things stand -/
structure Ad where
  c_Weather : Addr
  c_Setting : Addr
  c_HourSetting : Addr
  c_RestSetting : Addr
  c_Heater : Addr
  c_Drift : Addr
  c_Stretch : Addr
  c_Timeline : Addr
  c_Course : Addr
  c_HeatingSum : Addr
  c_Room : Addr
  f_first_invalid : Addr
  d_first_invalid : FuncData
  f_added_rounds : Addr
  d_added_rounds : FuncData
  f_heater_state : Addr
  d_heater_state : FuncData
  f_check_number : Addr
  d_check_number : FuncData
  f_Weather_init : Addr
  d_Weather_init : FuncData
  f_Weather_len : Addr
  d_Weather_len : FuncData
  f_Weather_getitem : Addr
  d_Weather_getitem : FuncData
  f_Weather_add : Addr
  d_Weather_add : FuncData
  f_Weather_mul : Addr
  d_Weather_mul : FuncData
  f_can_be_thresholds : Addr
  d_can_be_thresholds : FuncData
  f_Setting_init : Addr
  d_Setting_init : FuncData
  f_Setting_thresholds : Addr
  d_Setting_thresholds : FuncData
  f_Setting_lets_switch : Addr
  d_Setting_lets_switch : FuncData
  f_HourSetting_init : Addr
  d_HourSetting_init : FuncData
  f_HourSetting_thresholds : Addr
  d_HourSetting_thresholds : FuncData
  f_RestSetting_init : Addr
  d_RestSetting_init : FuncData
  f_RestSetting_thresholds : Addr
  d_RestSetting_thresholds : FuncData
  f_RestSetting_lets_switch : Addr
  d_RestSetting_lets_switch : FuncData
  f_first_invalid_part : Addr
  d_first_invalid_part : FuncData
  f_watch : Addr
  d_watch : FuncData
  f_totals : Addr
  d_totals : FuncData
  f__law_start : Addr
  d__law_start : FuncData
  f__law_drawn : Addr
  d__law_drawn : FuncData
  f__law_same : Addr
  d__law_same : FuncData
  f__law_outcome : Addr
  d__law_outcome : FuncData
  f__law_changes : Addr
  d__law_changes : FuncData
  f__law_weather : Addr
  d__law_weather : FuncData
  f__law_single : Addr
  d__law_single : FuncData
  f__law_parts : Addr
  d__law_parts : FuncData
  f__law_setting : Addr
  d__law_setting : FuncData
  f__law_watched : Addr
  d__law_watched : FuncData
  f__law_refused : Addr
  d__law_refused : FuncData
  f_law : Addr
  d_law : FuncData
  f_Weather_changes : Addr
  d_Weather_changes : FuncData
  p_Weather_changes : Addr
/-- what the written part says -/
structure Txt (K : PySem.W.Frag) (mg : Str → Option Value) (a : Ad) : Prop where
  cl_Weather : Cls K a.c_Weather
  mg_Weather : mg "Weather" = some (.ref a.c_Weather)
  na_Weather__changes : NoAttr K a.c_Weather "_changes"
  cl_Setting : Cls K a.c_Setting
  mg_Setting : mg "Setting" = some (.ref a.c_Setting)
  na_Setting__low : NoAttr K a.c_Setting "_low"
  na_Setting__high : NoAttr K a.c_Setting "_high"
  cl_HourSetting : Cls K a.c_HourSetting
  mg_HourSetting : mg "HourSetting" = some (.ref a.c_HourSetting)
  na_HourSetting__length : NoAttr K a.c_HourSetting "_length"
  na_HourSetting__parts : NoAttr K a.c_HourSetting "_parts"
  cl_RestSetting : Cls K a.c_RestSetting
  mg_RestSetting : mg "RestSetting" = some (.ref a.c_RestSetting)
  na_RestSetting__low : NoAttr K a.c_RestSetting "_low"
  na_RestSetting__high : NoAttr K a.c_RestSetting "_high"
  na_RestSetting__rest : NoAttr K a.c_RestSetting "_rest"
  F_first_invalid : Fun K "first_invalid" "first_invalid" s_first_invalid a.f_first_invalid a.d_first_invalid
  mg_first_invalid : mg "first_invalid" = some (.ref a.f_first_invalid)
  F_added_rounds : Fun K "added_rounds" "added_rounds" s_added_rounds a.f_added_rounds a.d_added_rounds
  mg_added_rounds : mg "added_rounds" = some (.ref a.f_added_rounds)
  F_heater_state : Fun K "heater_state" "heater_state" s_heater_state a.f_heater_state a.d_heater_state
  mg_heater_state : mg "heater_state" = some (.ref a.f_heater_state)
  F_check_number : Fun K "check_number" "check_number" s_check_number a.f_check_number a.d_check_number
  mg_check_number : mg "check_number" = some (.ref a.f_check_number)
  F_Weather_init : Fun K "__init__" "Weather.__init__" s_Weather_init a.f_Weather_init a.d_Weather_init
  mk_Weather : Mk K a.c_Weather a.f_Weather_init
  F_Weather_len : Fun K "__len__" "Weather.__len__" s_Weather_len a.f_Weather_len a.d_Weather_len
  me_Weather_len : Meth K a.c_Weather "__len__" a.f_Weather_len
  F_Weather_getitem : Fun K "__getitem__" "Weather.__getitem__" s_Weather_getitem a.f_Weather_getitem a.d_Weather_getitem
  me_Weather_getitem : Meth K a.c_Weather "__getitem__" a.f_Weather_getitem
  F_Weather_add : Fun K "__add__" "Weather.__add__" s_Weather_add a.f_Weather_add a.d_Weather_add
  me_Weather_add : Meth K a.c_Weather "__add__" a.f_Weather_add
  F_Weather_mul : Fun K "__mul__" "Weather.__mul__" s_Weather_mul a.f_Weather_mul a.d_Weather_mul
  me_Weather_mul : Meth K a.c_Weather "__mul__" a.f_Weather_mul
  F_can_be_thresholds : Fun K "can_be_thresholds" "can_be_thresholds" s_can_be_thresholds a.f_can_be_thresholds a.d_can_be_thresholds
  mg_can_be_thresholds : mg "can_be_thresholds" = some (.ref a.f_can_be_thresholds)
  F_Setting_init : Fun K "__init__" "Setting.__init__" s_Setting_init a.f_Setting_init a.d_Setting_init
  mk_Setting : Mk K a.c_Setting a.f_Setting_init
  F_Setting_thresholds : Fun K "thresholds" "Setting.thresholds" s_Setting_thresholds a.f_Setting_thresholds a.d_Setting_thresholds
  me_Setting_thresholds : Meth K a.c_Setting "thresholds" a.f_Setting_thresholds
  F_Setting_lets_switch : Fun K "lets_switch" "Setting.lets_switch" s_Setting_lets_switch a.f_Setting_lets_switch a.d_Setting_lets_switch
  me_Setting_lets_switch : Meth K a.c_Setting "lets_switch" a.f_Setting_lets_switch
  F_HourSetting_init : Fun K "__init__" "HourSetting.__init__" s_HourSetting_init a.f_HourSetting_init a.d_HourSetting_init
  mk_HourSetting : Mk K a.c_HourSetting a.f_HourSetting_init
  F_HourSetting_thresholds : Fun K "thresholds" "HourSetting.thresholds" s_HourSetting_thresholds a.f_HourSetting_thresholds a.d_HourSetting_thresholds
  me_HourSetting_thresholds : Meth K a.c_HourSetting "thresholds" a.f_HourSetting_thresholds
  mk_RestSetting : Mk K a.c_RestSetting a.f_RestSetting_init
  me_RestSetting_thresholds : Meth K a.c_RestSetting "thresholds" a.f_RestSetting_thresholds
  F_RestSetting_lets_switch : Fun K "lets_switch" "RestSetting.lets_switch" s_RestSetting_lets_switch a.f_RestSetting_lets_switch a.d_RestSetting_lets_switch
  me_RestSetting_lets_switch : Meth K a.c_RestSetting "lets_switch" a.f_RestSetting_lets_switch
  F_first_invalid_part : Fun K "first_invalid_part" "first_invalid_part" s_first_invalid_part a.f_first_invalid_part a.d_first_invalid_part
  mg_first_invalid_part : mg "first_invalid_part" = some (.ref a.f_first_invalid_part)
  F_watch : Fun K "watch" "watch" s_watch a.f_watch a.d_watch
  mg_watch : mg "watch" = some (.ref a.f_watch)
  F_totals : Fun K "totals" "totals" s_totals a.f_totals a.d_totals
  mg_totals : mg "totals" = some (.ref a.f_totals)
  F__law_start : Fun K "_law_start" "_law_start" s__law_start a.f__law_start a.d__law_start
  mg__law_start : mg "_law_start" = some (.ref a.f__law_start)
  F__law_drawn : Fun K "_law_drawn" "_law_drawn" s__law_drawn a.f__law_drawn a.d__law_drawn
  mg__law_drawn : mg "_law_drawn" = some (.ref a.f__law_drawn)
  F__law_same : Fun K "_law_same" "_law_same" s__law_same a.f__law_same a.d__law_same
  mg__law_same : mg "_law_same" = some (.ref a.f__law_same)
  F__law_outcome : Fun K "_law_outcome" "_law_outcome" s__law_outcome a.f__law_outcome a.d__law_outcome
  mg__law_outcome : mg "_law_outcome" = some (.ref a.f__law_outcome)
  F__law_changes : Fun K "_law_changes" "_law_changes" s__law_changes a.f__law_changes a.d__law_changes
  mg__law_changes : mg "_law_changes" = some (.ref a.f__law_changes)
  F__law_weather : Fun K "_law_weather" "_law_weather" s__law_weather a.f__law_weather a.d__law_weather
  mg__law_weather : mg "_law_weather" = some (.ref a.f__law_weather)
  F__law_single : Fun K "_law_single" "_law_single" s__law_single a.f__law_single a.d__law_single
  mg__law_single : mg "_law_single" = some (.ref a.f__law_single)
  F__law_parts : Fun K "_law_parts" "_law_parts" s__law_parts a.f__law_parts a.d__law_parts
  mg__law_parts : mg "_law_parts" = some (.ref a.f__law_parts)
  F__law_setting : Fun K "_law_setting" "_law_setting" s__law_setting a.f__law_setting a.d__law_setting
  mg__law_setting : mg "_law_setting" = some (.ref a.f__law_setting)
  F__law_watched : Fun K "_law_watched" "_law_watched" s__law_watched a.f__law_watched a.d__law_watched
  mg__law_watched : mg "_law_watched" = some (.ref a.f__law_watched)
  F__law_refused : Fun K "_law_refused" "_law_refused" s__law_refused a.f__law_refused a.d__law_refused
  mg__law_refused : mg "_law_refused" = some (.ref a.f__law_refused)
  F_law : Fun K "law" "law" s_law a.f_law a.d_law
  mg_law : mg "law" = some (.ref a.f_law)
  F_Weather_changes : Fun K "changes" "Weather.changes" s_Weather_changes a.f_Weather_changes a.d_Weather_changes
  pr_Weather_changes : PropOf K a.c_Weather "changes" a.p_Weather_changes a.f_Weather_changes
  mg_MOST_TICKS : ∃ t, mg "MOST_TICKS" = some (.int 1000000000000000000 t)
  mg_MOST_GAIN : ∃ t, mg "MOST_GAIN" = some (.int 200 t)
  mg_MOST_DEGREES : ∃ t, mg "MOST_DEGREES" = some (.int 1000000000000 t)
  mg_MOST_REST : ∃ t, mg "MOST_REST" = some (.int 1000 t)
  mg_MOST_WATCHED : ∃ t, mg "MOST_WATCHED" = some (.int 10000 t)
  mg_lcm : mg "lcm" = some (.builtin "math.lcm")
  z_bool : mg "bool" = none
  z_enumerate : mg "enumerate" = none
  z_int : mg "int" = none
  z_isinstance : mg "isinstance" = none
  z_len : mg "len" = none
  z_list : mg "list" = none
  z_min : mg "min" = none
  z_range : mg "range" = none
  z_tuple : mg "tuple" = none
  cv_HourSetting_MAX_LENGTH : ∃ t, Con K a.c_HourSetting "MAX_LENGTH" (.int 24) (.int 24 t)
  cv_Weather_MAX_CHANGE : ∃ t, Con K a.c_Weather "MAX_CHANGE" (.int 100) (.int 100 t)
  cv_Weather_MAX_TICKS : ∃ t, Con K a.c_Weather "MAX_TICKS" (.int 24) (.int 24 t)
section
variable {K : PySem.W.Frag} {mg : Str → Option Value} {a : Ad}
theorem b_first_invalid (T : Txt K mg a) : Binds K a.d_first_invalid ["values", "least", "greatest", "most"] [] := T.F_first_invalid.binds (ps := ["values", "least", "greatest", "most"]) fun _ _ _ _ _ _ us hl => match us, hl with | [_, _, _, _], _ => rfl
theorem b_added_rounds (T : Txt K mg a) : Binds K a.d_added_rounds ["one", "other"] [] := T.F_added_rounds.binds (ps := ["one", "other"]) fun _ _ _ _ _ _ us hl => match us, hl with | [_, _], _ => rfl
theorem b_heater_state (T : Txt K mg a) : Binds K a.d_heater_state ["degrees", "low", "high", "before"] [] := T.F_heater_state.binds (ps := ["degrees", "low", "high", "before"]) fun _ _ _ _ _ _ us hl => match us, hl with | [_, _, _, _], _ => rfl
theorem b_check_number (T : Txt K mg a) : Binds K a.d_check_number ["number", "least", "greatest"] [] := T.F_check_number.binds (ps := ["number", "least", "greatest"]) fun _ _ _ _ _ _ us hl => match us, hl with | [_, _, _], _ => rfl
theorem b_Weather_len (T : Txt K mg a) : Binds K a.d_Weather_len ["self"] [] := T.F_Weather_len.binds (ps := ["self"]) fun _ _ _ _ _ _ us hl => match us, hl with | [_], _ => rfl
theorem b_Weather_getitem (T : Txt K mg a) : Binds K a.d_Weather_getitem ["self", "at"] [] := T.F_Weather_getitem.binds (ps := ["self", "at"]) fun _ _ _ _ _ _ us hl => match us, hl with | [_, _], _ => rfl
theorem b_Weather_add (T : Txt K mg a) : Binds K a.d_Weather_add ["self", "other"] [] := T.F_Weather_add.binds (ps := ["self", "other"]) fun _ _ _ _ _ _ us hl => match us, hl with | [_, _], _ => rfl
theorem b_Weather_mul (T : Txt K mg a) : Binds K a.d_Weather_mul ["self", "times"] [] := T.F_Weather_mul.binds (ps := ["self", "times"]) fun _ _ _ _ _ _ us hl => match us, hl with | [_, _], _ => rfl
theorem b_can_be_thresholds (T : Txt K mg a) : Binds K a.d_can_be_thresholds ["low", "high"] [] := T.F_can_be_thresholds.binds (ps := ["low", "high"]) fun _ _ _ _ _ _ us hl => match us, hl with | [_, _], _ => rfl
theorem b_Setting_init (T : Txt K mg a) : Binds K a.d_Setting_init ["self", "low", "high"] [] := T.F_Setting_init.binds (ps := ["self", "low", "high"]) fun _ _ _ _ _ _ us hl => match us, hl with | [_, _, _], _ => rfl
theorem b_Setting_thresholds (T : Txt K mg a) : Binds K a.d_Setting_thresholds ["self", "tick"] [] := T.F_Setting_thresholds.binds (ps := ["self", "tick"]) fun _ _ _ _ _ _ us hl => match us, hl with | [_, _], _ => rfl
theorem b_Setting_lets_switch (T : Txt K mg a) : Binds K a.d_Setting_lets_switch ["self", "tick", "last"] [] := T.F_Setting_lets_switch.binds (ps := ["self", "tick", "last"]) fun _ _ _ _ _ _ us hl => match us, hl with | [_, _, _], _ => rfl
theorem b_HourSetting_thresholds (T : Txt K mg a) : Binds K a.d_HourSetting_thresholds ["self", "tick"] [] := T.F_HourSetting_thresholds.binds (ps := ["self", "tick"]) fun _ _ _ _ _ _ us hl => match us, hl with | [_, _], _ => rfl
theorem b_RestSetting_lets_switch (T : Txt K mg a) : Binds K a.d_RestSetting_lets_switch ["self", "tick", "last"] [] := T.F_RestSetting_lets_switch.binds (ps := ["self", "tick", "last"]) fun _ _ _ _ _ _ us hl => match us, hl with | [_, _, _], _ => rfl
theorem b_first_invalid_part (T : Txt K mg a) : Binds K a.d_first_invalid_part ["length", "parts"] [] := T.F_first_invalid_part.binds (ps := ["length", "parts"]) fun _ _ _ _ _ _ us hl => match us, hl with | [_, _], _ => rfl
theorem b_watch (T : Txt K mg a) : Binds K a.d_watch ["weather", "gain", "setting", "start", "count"] [] := T.F_watch.binds (ps := ["weather", "gain", "setting", "start", "count"]) fun _ _ _ _ _ _ us hl => match us, hl with | [_, _, _, _, _], _ => rfl
theorem b_totals (T : Txt K mg a) : Binds K a.d_totals ["weather", "gain", "setting", "start", "count"] [] := T.F_totals.binds (ps := ["weather", "gain", "setting", "start", "count"]) fun _ _ _ _ _ _ us hl => match us, hl with | [_, _, _, _, _], _ => rfl
theorem b__law_start (T : Txt K mg a) : Binds K a.d__law_start ["_law_script"] [] := T.F__law_start.binds (ps := ["_law_script"]) fun _ _ _ _ _ _ us hl => match us, hl with | [_], _ => rfl
theorem b__law_drawn (T : Txt K mg a) : Binds K a.d__law_drawn ["_law_state", "_law_count"] [] := T.F__law_drawn.binds (ps := ["_law_state", "_law_count"]) fun _ _ _ _ _ _ us hl => match us, hl with | [_, _], _ => rfl
theorem b__law_same (T : Txt K mg a) : Binds K a.d__law_same ["_law_result", "_law_expected"] [] := T.F__law_same.binds (ps := ["_law_result", "_law_expected"]) fun _ _ _ _ _ _ us hl => match us, hl with | [_, _], _ => rfl
theorem b__law_outcome (T : Txt K mg a) : Binds K a.d__law_outcome ["_law_work"] [] := T.F__law_outcome.binds (ps := ["_law_work"]) fun _ _ _ _ _ _ us hl => match us, hl with | [_], _ => rfl
theorem b__law_changes (T : Txt K mg a) : Binds K a.d__law_changes ["_law_state", "_law_most"] [] := T.F__law_changes.binds (ps := ["_law_state", "_law_most"]) fun _ _ _ _ _ _ us hl => match us, hl with | [_, _], _ => rfl
theorem b__law_weather (T : Txt K mg a) : Binds K a.d__law_weather ["_law_changes_here"] [] := T.F__law_weather.binds (ps := ["_law_changes_here"]) fun _ _ _ _ _ _ us hl => match us, hl with | [_], _ => rfl
theorem b__law_single (T : Txt K mg a) : Binds K a.d__law_single ["_law_size", "_law_at"] [] := T.F__law_single.binds (ps := ["_law_size", "_law_at"]) fun _ _ _ _ _ _ us hl => match us, hl with | [_, _], _ => rfl
theorem b__law_parts (T : Txt K mg a) : Binds K a.d__law_parts ["_law_state"] [] := T.F__law_parts.binds (ps := ["_law_state"]) fun _ _ _ _ _ _ us hl => match us, hl with | [_], _ => rfl
theorem b__law_setting (T : Txt K mg a) : Binds K a.d__law_setting ["_law_word", "_law_length", "_law_parts_here", "_law_pause"] [] := T.F__law_setting.binds (ps := ["_law_word", "_law_length", "_law_parts_here", "_law_pause"]) fun _ _ _ _ _ _ us hl => match us, hl with | [_, _, _, _], _ => rfl
theorem b__law_watched (T : Txt K mg a) : Binds K a.d__law_watched ["_law_word", "_law_length", "_law_parts_here", "_law_pause", "_law_changes_here", "_law_gain", "_law_start_here", "_law_count"] [] := T.F__law_watched.binds (ps := ["_law_word", "_law_length", "_law_parts_here", "_law_pause", "_law_changes_here", "_law_gain", "_law_start_here", "_law_count"]) fun _ _ _ _ _ _ us hl => match us, hl with | [_, _, _, _, _, _, _, _], _ => rfl
theorem b__law_refused (T : Txt K mg a) : Binds K a.d__law_refused ["_law_sky"] [] := T.F__law_refused.binds (ps := ["_law_sky"]) fun _ _ _ _ _ _ us hl => match us, hl with | [_], _ => rfl
theorem b_law (T : Txt K mg a) : Binds K a.d_law ["_law_script"] [] := T.F_law.binds (ps := ["_law_script"]) fun _ _ _ _ _ _ us hl => match us, hl with | [_], _ => rfl
theorem b_Weather_changes (T : Txt K mg a) : Binds K a.d_Weather_changes ["self"] [] := T.F_Weather_changes.binds (ps := ["self"]) fun _ _ _ _ _ _ us hl => match us, hl with | [_], _ => rfl
end
end W6

/-! a head's facts, told by Bools and by what stands at the defs' places -/
namespace Hq
open PySem PySem.Spec PyProof.Rows L2
/-- the def behind a property -/
def gtA (K : PySem.W.Frag) (p : Addr) : Addr := match PySem.W.recIn K p "property" with
  | some (Value.ref f :: _rest) => f
  | _ => 0
def gtR (K : PySem.W.Frag) (p : Addr) : List Value := match PySem.W.recIn K p "property" with
  | some (Value.ref _f :: rest) => rest
  | _ => []
def gtB (K : PySem.W.Frag) (p : Addr) : Bool := match PySem.W.recIn K p "property" with
  | some (Value.ref _f :: _rest) => true
  | _ => false
theorem gtB_ok {K : PySem.W.Frag} {p : Addr} (h : gtB K p = true) : PySem.W.recIn K p "property" = some (.ref (gtA K p) :: gtR K p) := by
  unfold gtB at h
  unfold gtA gtR
  split at h
  · rename_i e; rw [e]
  · cases h
/-- the dict of a def's keyword defaults -/
def kvA : Value → Addr
  | .ref b => b
  | _ => 0
def kvB : Value → Bool
  | .ref _ => true
  | _ => false
def kwA (K : PySem.W.Frag) (f : Addr) : Addr := match K.lookup f with
  | some { data := Data.func d, .. } => kvA d.kwdefaults
  | _ => 0
def kwB (K : PySem.W.Frag) (f : Addr) : Bool := match K.lookup f with
  | some { data := Data.func d, .. } => kvB d.kwdefaults
  | _ => false
/-- what a def is made of -/
abbrev Mv : Type := Option (Str × Str × Arguments × FuncBody × Scope × Addr × List (Str × Addr) × Value × Addr)
def mo (K : PySem.W.Frag) (f : Addr) : Mv := match K.lookup f with
  | some { data := Data.func d, .. } => some (d.name, d.qualname, d.params, d.body, d.scope, d.globals, d.closure, d.defaults, d.builtins)
  | _ => none
def mv (name qual : Str) (st : Stmt) : Mv := some (name, qual, defArgs st, .stmts (defBody st), defScope st, mainGlobals, [], .none, builtinsNs)
def coB (K : PySem.W.Frag) (f : Addr) (q : Str) : Bool := match K.lookup f with
  | some { data := Data.func d, .. } => PySem.W.codeIn K d.code q
  | _ => false
theorem mo_ok {K : PySem.W.Frag} {f : Addr} {name qual : Str} {st : Stmt} (e : mo K f = mv name qual st) (c : coB K f qual = true) :
    ∃ oc od osl kV doc pm an cdv ct, K.lookup f = some ⟨oc, od, .func (PySem.W.fnOf name qual (defArgs st) (defBody st) (defScope st) .none kV doc pm an cdv ct), osl⟩ ∧ PySem.W.codeIn K cdv qual = true := by
  unfold mo at e
  unfold coB at c
  cases q : K.lookup f with
  | none => rw [q] at c; cases c
  | some o =>
    obtain ⟨oc, od, dt, osl⟩ := o
    rw [q] at c e
    cases dt with
    | func fd =>
      obtain ⟨n1, n2, n3, n4, n5, n6, n7, n8, n9, n10, n11, n12, n13, n14, n15⟩ := fd
      have e2 : (some (n1, n2, n3, n4, n5, n6, n7, n8, n15) : Mv) = some (name, qual, defArgs st, .stmts (defBody st), defScope st, mainGlobals, [], .none, builtinsNs) := e
      simp only [Option.some.injEq, Prod.mk.injEq] at e2
      obtain ⟨h1, h2, h3, h4, h5, h6, h7, h8, h9⟩ := e2
      subst h1 h2 h3 h4 h5 h6 h7 h8 h9
      exact ⟨oc, od, osl, n9, n10, n11, n12, n13, n14, rfl, c⟩
    | _ => cases c
theorem mo_okK {K : PySem.W.Frag} {f : Addr} {name qual : Str} {st : Stmt} (e : mo K f = mv name qual st) (c : coB K f qual = true) (b : kwB K f = true) :
    ∃ oc od osl doc pm an cdv ct, K.lookup f = some ⟨oc, od, .func (PySem.W.fnOf name qual (defArgs st) (defBody st) (defScope st) .none (.ref (kwA K f)) doc pm an cdv ct), osl⟩ ∧ PySem.W.codeIn K cdv qual = true := by
  obtain ⟨oc, od, osl, kV, doc, pm, an, cdv, ct, lk, co⟩ := mo_ok e c
  have ek : kV = .ref (kwA K f) := by
    unfold kwB at b
    unfold kwA
    rw [lk] at b ⊢
    have b2 : kvB kV = true := b
    show kV = .ref (kvA kV)
    cases kV with
    | ref d => rfl
    | _ => cases b2
  rw [ek] at lk
  exact ⟨oc, od, osl, doc, pm, an, cdv, ct, lk, co⟩
/-- a written int of the module -/
def inB (K : PySem.W.Frag) (x : Str) (i : Int) : Bool := match PySem.W.nsIn K mainGlobals x with
  | some (some (Value.int j _t)) => decide (j = i)
  | _ => false
theorem inB_ok {K : PySem.W.Frag} {x : Str} {i : Int} (h : inB K x i = true) : ∃ t, PySem.W.nsIn K mainGlobals x = some (some (.int i t)) := by
  unfold inB at h
  split at h
  · rename_i j t e
    rw [e, of_decide_eq_true h]
    exact ⟨t, rfl⟩
  · cases h
/-- a class's int -/
def cvB (K : PySem.W.Frag) (C : Addr) (x : Str) (i : Int) : Bool := match PySem.W.findIn K (.ref C) x with
  | some (some (Value.int j t)) => decide (j = i) && He.eqO (PySem.W.specialIn K (.int j t) "__get__") (some none)
  | _ => false
theorem cvB_ok {K : PySem.W.Frag} {C : Addr} {x : Str} {i : Int} (h : cvB K C x i = true) : ∃ t, PySem.W.findIn K (.ref C) x = some (some (.int i t)) ∧ PySem.W.specialIn K (.int i t) "__get__" = some none := by
  unfold cvB at h
  split at h
  · rename_i j t e
    obtain ⟨h1, h2⟩ := He.ba h
    have ej := of_decide_eq_true h1
    subst ej
    exact ⟨t, e, He.eqO_ok h2⟩
  · cases h
/-! ### the Hook -/
/-- the facts; where the defs stand, and what is to stand there -/
structure Spc where
  bs : PySem.W.Frag → List Bool
  fs : List ((PySem.W.Frag → Addr) × Mv)
abbrev Av : Type := Bool × List Mv
def obs (S : Spc) (K : PySem.W.Frag) : Av := ((S.bs K).all id, S.fs.map fun q => mo K (q.1 K))
def wanted (S : Spc) : Av := (true, S.fs.map fun q => q.2)
def Says (S : Spc) (K : PySem.W.Frag) : Prop := obs S K = wanted S
/-- what an object leads to: values, code, keyword defaults, a class's names -/
def refQ (o : Obj) : List Addr := match o.data with
  | .dict entries _ => entries.toList.flatMap fun q => He.refV q.val
  | .func d => He.refV d.code ++ He.refV d.kwdefaults
  | .cls d => [d.ns]
  | .fields parts => parts.toList.flatMap He.refV
  | _ => []
def lvl (g : Addr → Option Obj) (xs : List Addr) : List Addr := xs.flatMap fun b => match g b with
  | some o => refQ o
  | none => []
def asQ (g : Addr → Option Obj) : Nat → List Addr → List Addr
  | 0, xs => xs
  | n + 1, xs => xs ++ asQ g n (lvl g xs)
def obsG (n : Nat) (S : Spc) (g : Addr → Option Obj) : Av := obs S (He.frG g (asQ g n [mainGlobals]))
def hook (n : Nat) (S : Spc) : PySem.W.Hook where
  α := Av
  obs := fun s => obsG n S s.heap.get?
  val := fun _ => wanted S
  says := fun _ h => ∃ K : PySem.W.Frag, K.In h ∧ Says S K
  of := fun _ _ e => ⟨_, He.frG_in, e⟩
  keeps := fun _ _ _ ⟨K, hK, c⟩ k => ⟨K, hK.keeps k, c⟩
theorem obsG_eq {n : Nat} {S : Spc} {g : Addr → Option Obj} {s : Shared} (h : ∀ a, g a = s.heap.get? a) : obsG n S g = (hook n S).obs s := by
  obtain rfl : g = s.heap.get? := funext h
  rfl
section
variable {S : Spc} {K : PySem.W.Frag}
theorem Says.fact (c : Says S K) (i : Nat) {b : Bool} (h : (S.bs K)[i]? = some b) : b = true := by
  have c1 : (S.bs K).all id = true := congrArg (fun z : Av => z.1) c
  exact List.all_eq_true.mp c1 b (List.mem_of_getElem? h)
theorem Says.fn (c : Says S K) (i : Nat) {f : PySem.W.Frag → Addr} {v : Mv} (h : S.fs[i]? = some (f, v)) : mo K (f K) = v := by
  have c2 : (S.fs.map fun q => mo K (q.1 K)) = S.fs.map fun q => q.2 := congrArg (fun z : Av => z.2) c
  have e2 : (S.fs.map fun q => mo K (q.1 K))[i]? = (S.fs.map fun q => q.2)[i]? := by rw [← c2]
  rw [List.getElem?_map, List.getElem?_map, h] at e2
  exact Option.some.inj e2
end
end Hq

/-! a head's facts, further: tables of code objects, defs that close over __class__, errors' classes -/
namespace Hq2
open PySem PySem.Spec PyProof.Rows L2 Hq
/-! ### a def that closes over its class -/
abbrev Mx : Type := Option (Str × Str × Arguments × FuncBody × Scope × Addr × List Str × Value × Value × Addr)
def moX (K : PySem.W.Frag) (f : Addr) : Mx := match K.lookup f with
  | some { data := Data.func d, .. } => some (d.name, d.qualname, d.params, d.body, d.scope, d.globals, d.closure.map (·.1), d.defaults, d.kwdefaults, d.builtins)
  | _ => none
def mvX (name qual : Str) (st : Stmt) : Mx := some (name, qual, defArgs st, .stmts (defBody st), defScope st, mainGlobals, ["__class__"], .none, .none, builtinsNs)
def cellB (K : PySem.W.Frag) (a C : Addr) : Bool := match K.lookup a with
  | some { data := Data.cell (some (Value.ref D)), .. } => decide (D = C)
  | _ => false
theorem cellB_ok {K : PySem.W.Frag} {a C : Addr} (h : cellB K a C = true) : ∃ (cl : Value) (cld : Option Addr) (csl : Array (Option Value)), K.lookup a = some ⟨cl, cld, .cell (some (.ref C)), csl⟩ := by
  unfold cellB at h
  split at h
  · rename_i cl cld D csl hq
    have ed := of_decide_eq_true h
    subst ed
    exact ⟨_, _, _, hq⟩
  · cases h
def fileB (K : PySem.W.Frag) (v : Value) (file : Str) : Bool := match v with
  | Value.ref c => (match K.lookup c with
    | some { data := Data.fields vs, .. } => (match vs[2]? with
      | some (Value.str fl _) => decide (fl = file)
      | _ => false)
    | _ => false)
  | _ => false
theorem fileB_ok {K : PySem.W.Frag} {v : Value} {file : Str} (h : fileB K v file = true) : ∃ cda : Addr, v = .ref cda ∧ ∃ (ccl : Value) (cdd : Option Addr) (vs : Array Value) (ccs : Array (Option Value)) (tf : Tok), K.lookup cda = some ⟨ccl, cdd, .fields vs, ccs⟩ ∧ vs[2]? = some (.str file tf) := by
  unfold fileB at h
  split at h
  · rename_i c
    split at h
    · rename_i ccl cdd vs ccs hq
      split at h
      · rename_i fl tf hv
        have ef := of_decide_eq_true h
        subst ef
        exact ⟨c, rfl, _, _, _, _, tf, hq, hv⟩
      · cases h
    · cases h
  · cases h
def ccB (K : PySem.W.Frag) (f C : Addr) : Bool := match K.lookup f with
  | some { data := Data.func d, .. } => d.closure.all fun p => cellB K p.2 C
  | _ => false
def flB (K : PySem.W.Frag) (f : Addr) (file : Str) : Bool := match K.lookup f with
  | some { data := Data.func d, .. } => fileB K d.code file
  | _ => false
theorem mx_ok {K : PySem.W.Frag} {f C : Addr} {name qual file : Str} {st : Stmt} (e : moX K f = mvX name qual st) (c : coB K f qual = true) (h1 : ccB K f C = true) (h2 : flB K f file = true) :
    ∃ (oc : Value) (od : Option Addr) (doc pm : Value) (an : Option Addr) (cda cc : Addr) (ct : Value) (osl : Array (Option Value)),
      K.lookup f = some ⟨oc, od, .func (PySem.W.ksFn name qual (defArgs st) (defBody st) (defScope st) .none .none doc pm an (.ref cda) ct cc), osl⟩ ∧ PySem.W.codeIn K (.ref cda) qual = true ∧
      (∃ (ccl : Value) (cdd : Option Addr) (vs : Array Value) (ccs : Array (Option Value)) (tf : Tok), K.lookup cda = some ⟨ccl, cdd, .fields vs, ccs⟩ ∧ vs[2]? = some (.str file tf)) ∧
      (∃ (cl : Value) (cld : Option Addr) (csl : Array (Option Value)), K.lookup cc = some ⟨cl, cld, .cell (some (.ref C)), csl⟩) := by
  unfold moX at e
  unfold coB at c
  unfold ccB at h1
  unfold flB at h2
  cases q : K.lookup f with
  | none => rw [q] at c; cases c
  | some o =>
    obtain ⟨oc, od, dt, osl⟩ := o
    rw [q] at c e h1 h2
    cases dt with
    | func fd =>
      obtain ⟨n1, n2, n3, n4, n5, n6, n7, n8, n9, n10, n11, n12, n13, n14, n15⟩ := fd
      have e2 : (some (n1, n2, n3, n4, n5, n6, n7.map (·.1), n8, n9, n15) : Mx) = (some (name, qual, defArgs st, FuncBody.stmts (defBody st), defScope st, mainGlobals, ["__class__"], Value.none, Value.none, builtinsNs) : Mx) := e
      simp only [Option.some.injEq, Prod.mk.injEq] at e2
      obtain ⟨e1, e3, e4, e5, e6, e7, e8, e9, e10, e11⟩ := e2
      subst e1 e3 e4 e5 e6 e7 e9 e10 e11
      have h1 : (n7.all fun p => cellB K p.2 C) = true := h1
      have h2 : fileB K n13 file = true := h2
      have ln : n7.length = 1 := by
        have z := congrArg List.length e8
        rw [List.length_map] at z
        exact z
      match n7, ln with
      | [(nm, cc)], _ =>
        have enm : nm = ("__class__" : Str) := (List.cons.inj e8).1
        subst enm
        obtain ⟨cda, rfl, hc⟩ := fileB_ok h2
        have h1 : (cellB K cc C && true) = true := h1
        rw [Bool.and_true] at h1
        exact ⟨oc, od, n10, n11, n12, cda, cc, n14, osl, rfl, c, hc, cellB_ok h1⟩
    | _ => cases c
/-! ### an error's class -/
def ixClsB (K : PySem.W.Frag) (C : Addr) : Bool := match K.lookup C with
  | some ⟨Value.type "type", _, Data.cls cd, sl⟩ => (match cd.mro, sl.toList with
    | Value.ref D :: bm, [_, _, _, _, some (Value.builtin n), _] => decide (D = C) && (decide (n = "ValueError.__new__") && (!cd.hasDel && (cd.hasDict && PySem.HandSPX.refsVE bm)))
    | _, _ => false)
  | _ => false
theorem ixClsB_ok {K : PySem.W.Frag} {C : Addr} (h : ixClsB K C = true) : ∃ nm q N bs bm sn sub ab col dd k0 k1 k2 k3 k5, K.lookup C = some (excClassObj nm q C N bs bm true sn sub ab col dd k0 k1 k2 k3 k5 "ValueError.__new__") ∧ PySem.HandSPX.refsVE bm = true := by
  unfold ixClsB at h
  split at h
  · rename_i dd cd sl ho
    split at h
    · rename_i D bm k0 k1 k2 k3 n k5 hm hs
      obtain ⟨a1, h⟩ := He.ba h
      obtain ⟨a2, h⟩ := He.ba h
      obtain ⟨a3, h⟩ := He.ba h
      obtain ⟨a4, a5⟩ := He.ba h
      have e1 := of_decide_eq_true a1
      have e2 := of_decide_eq_true a2
      subst e1 e2
      obtain ⟨nm, bs, mro, ns, qn, hd, sn, sub, ab, col, del⟩ := cd
      have e3 : del = false := by simpa using a3
      have e4 : hd = true := a4
      have e5 : mro = Value.ref D :: bm := hm
      subst e3 e4 e5
      have hsl : sl = #[k0, k1, k2, k3, some (.builtin "ValueError.__new__"), k5] := by
        obtain ⟨l⟩ := sl
        have hs : l = _ := hs
        rw [hs]
      subst hsl
      exact ⟨nm, qn, ns, bs, bm, sn, sub, ab, col, dd, k0, k1, k2, k3, k5, ho, a5⟩
    · cases h
  · cases h
def excB (K : PySem.W.Frag) (D : Addr) : Bool := He.eqO (PySem.W.findIn K (.ref D) "__getattribute__") (some (some (.builtin "BaseException.__getattribute__"))) && (He.eqO (PySem.W.findIn K (.ref D) "__getattr__") (some none) &&
  (decide (PySem.W.subIn K (.ref D) (.type "BaseException") = some true) && (PySem.W.hasDictIn K D && (He.eqO (PySem.W.findIn K (.ref D) "__class__") (some (some (.builtin "object.__class__"))) &&
  (He.eqO (PySem.W.specialIn K (.builtin "object.__class__") "__get__") (some (some (.builtin "getset_descriptor.__get__"))) && (decide (PySem.W.takesIn K (.builtin "object.__class__") = some true) && decide (PySem.W.mroIn K D (.type "object") = some true)))))))
theorem excB_ok {K : PySem.W.Frag} {D : Addr} (h : excB K D = true) : ExcC K D := by
  obtain ⟨h1, h⟩ := He.ba h
  obtain ⟨h2, h⟩ := He.ba h
  obtain ⟨h3, h⟩ := He.ba h
  obtain ⟨h4, h⟩ := He.ba h
  obtain ⟨h5, h⟩ := He.ba h
  obtain ⟨h6, h⟩ := He.ba h
  obtain ⟨h7, h8⟩ := He.ba h
  exact ⟨He.eqO_ok h1, He.eqO_ok h2, of_decide_eq_true h3, h4, He.eqO_ok h5, He.eqO_ok h6, of_decide_eq_true h7, of_decide_eq_true h8⟩
/-- what IxTxt asks of the class beside the def's text -/
def ixB (K : PySem.W.Frag) (C : Addr) : Bool := ixClsB K C && (He.eqO (PySem.W.findIn K (.ref C) "__setattr__") (some (some (.builtin "object.__setattr__"))) && (He.eqO (PySem.W.findIn K (.ref C) "index") (some none) &&
  (He.eqO (PySem.W.findIn K (.ref C) "__init__") (some (some (.ref (He.ma K C "__init__")))) && (decide (PySem.W.typeIn K (.ref (He.ma K C "__init__")) = some (.type "function")) && (PySem.W.keepIn K (.ref C) &&
  (decide (PySem.W.typeIn K (.ref C) = some (.type "type")) && (decide (PySem.W.mroIn K C (.ref C) = some true) && (He.eqO (PySem.W.ks_superIn K C C "__init__") (some (some (.builtin "ValueError.__init__"))) &&
  (decide (PySem.W.subIn K (.ref C) (.type "ValueError") = some true) && He.eqO (PySem.W.nsIn K cStatics "thirdparty.any") (some none))))))))))
/-! ### a class's constant, read off the class -/
def cvalB (K : PySem.W.Frag) (C : Addr) (x : Str) (i : Int) : Bool := match PySem.W.findCls K (.ref C) (.type "type") x with
  | some (.val (.int j _)) => decide (j = i)
  | _ => false
theorem cvalB_ok {K : PySem.W.Frag} {C : Addr} {x : Str} {i : Int} (h : cvalB K C x i = true) : ∃ t, ClX.CVal K C (.type "type") x (.int i) (.int i t) := by
  unfold cvalB at h
  split at h
  · rename_i j t e
    have ej := of_decide_eq_true h
    subst ej
    exact ⟨t, e, ⟨t, rfl⟩⟩
  · cases h
/-! ### the Hook -/
structure Spc where
  bs : PySem.W.Frag → List Bool
  fs : List ((PySem.W.Frag → Addr) × Mv)
  xs : List ((PySem.W.Frag → Addr) × Mx)
  cs : PySem.W.Frag → List (Addr × Addr)
abbrev Av : Type := Bool × List Mv × List Mx
def obsK (S : Spc) (K : PySem.W.Frag) : Av := ((S.bs K).all id, S.fs.map fun q => mo K (q.1 K), S.xs.map fun q => moX K (q.1 K))
def tabB (S : Spc) (g : Addr → Option Obj) (K : PySem.W.Frag) : Bool := (S.cs K).all fun p => PySem.W.codeHdIn K p.1 p.2 && (match g p.2 with
  | some o => He.emptyTab o
  | none => false)
def wanted (S : Spc) : Av := (true, S.fs.map fun q => q.2, S.xs.map fun q => q.2)
def refX (o : Obj) : List Addr := match o.data with
  | .dict entries _ => entries.toList.flatMap fun q => He.refV q.val
  | .func d => He.refV d.code ++ He.refV d.kwdefaults ++ d.closure.map (·.2)
  | .cls d => [d.ns]
  | .fields parts => parts.toList.flatMap He.refV
  | _ => []
def lvl (g : Addr → Option Obj) (xs : List Addr) : List Addr := xs.flatMap fun b => match g b with
  | some o => refX o
  | none => []
def asX (g : Addr → Option Obj) : Nat → List Addr → List Addr
  | 0, xs => xs
  | n + 1, xs => xs ++ asX g n (lvl g xs)
def frX (n : Nat) (g : Addr → Option Obj) : PySem.W.Frag := He.frT g (cStatics :: asX g n [mainGlobals])
def obsG (n : Nat) (S : Spc) (g : Addr → Option Obj) : Av × Bool := (obsK S (frX n g), tabB S g (frX n g))
/-- what is told of the written part -/
structure Says (S : Spc) (h : Heap) (K : PySem.W.Frag) : Prop where
  k : obsK S K = wanted S
  hd : ∀ p ∈ S.cs K, PySem.W.codeHdIn K p.1 p.2 = true
  out : ∀ p ∈ S.cs K, K.lookup p.2 = none
  empty : ∀ p ∈ S.cs K, h.get? p.2 = some { cls := .none, data := .fields #[] }
theorem says_of {n : Nat} {S : Spc} {h : Heap} (e : obsG n S h.get? = (wanted S, true)) : Says S h (frX n h.get?) := by
  have e1 : obsK S (frX n h.get?) = wanted S := congrArg (fun z : Av × Bool => z.1) e
  have e2 : tabB S h.get? (frX n h.get?) = true := congrArg (fun z : Av × Bool => z.2) e
  have key : ∀ p ∈ S.cs (frX n h.get?), PySem.W.codeHdIn (frX n h.get?) p.1 p.2 = true ∧ ∃ o, h.get? p.2 = some o ∧ He.emptyTab o = true := fun p hp => by
    obtain ⟨h3, h4⟩ := He.ba (List.all_eq_true.mp e2 p hp)
    refine ⟨h3, ?_⟩
    cases q : h.get? p.2 with
    | none => rw [q] at h4; cases h4
    | some o => rw [q] at h4; exact ⟨o, rfl, h4⟩
  refine ⟨e1, fun p hp => (key p hp).1, fun p hp => ?_, fun p hp => ?_⟩
  · obtain ⟨_, o, q, z⟩ := key p hp
    exact He.frT_none q z
  · obtain ⟨_, o, q, z⟩ := key p hp
    rw [q, He.emptyTab_eq z]
def hook (n : Nat) (S : Spc) : PySem.W.Hook where
  α := Av × Bool
  obs := fun s => obsG n S s.heap.get?
  val := fun _ => (wanted S, true)
  says := fun _ h => ∃ K : PySem.W.Frag, K.In h ∧ Says S h K
  of := fun _ _ e => ⟨_, He.frT_in, says_of e⟩
  keeps := fun _ _ _ ⟨K, hK, c⟩ k => ⟨K, PySem.W.Frag.In.keeps hK k, ⟨c.k, c.hd, c.out, fun p hp => k _ _ (c.empty p hp)⟩⟩
theorem obsG_eq {n : Nat} {S : Spc} {g : Addr → Option Obj} {s : Shared} (h : ∀ a, g a = s.heap.get? a) : obsG n S g = (hook n S).obs s := by
  obtain rfl : g = s.heap.get? := funext h
  rfl
section
variable {S : Spc} {K : PySem.W.Frag} {h : Heap}
theorem Says.fact (c : Says S h K) (i : Nat) {b : Bool} (e : (S.bs K)[i]? = some b) : b = true := by
  have c1 : (S.bs K).all id = true := congrArg (fun z : Av => z.1) c.k
  exact List.all_eq_true.mp c1 b (List.mem_of_getElem? e)
theorem Says.fn (c : Says S h K) (i : Nat) {f : PySem.W.Frag → Addr} {v : Mv} (e : S.fs[i]? = some (f, v)) : mo K (f K) = v := by
  have c2 : (S.fs.map fun q => mo K (q.1 K)) = S.fs.map fun q => q.2 := congrArg (fun z : Av => z.2.1) c.k
  have e2 : (S.fs.map fun q => mo K (q.1 K))[i]? = (S.fs.map fun q => q.2)[i]? := by rw [← c2]
  rw [List.getElem?_map, List.getElem?_map, e] at e2
  exact Option.some.inj e2
theorem Says.fx (c : Says S h K) (i : Nat) {f : PySem.W.Frag → Addr} {v : Mx} (e : S.xs[i]? = some (f, v)) : moX K (f K) = v := by
  have c2 : (S.xs.map fun q => moX K (q.1 K)) = S.xs.map fun q => q.2 := congrArg (fun z : Av => z.2.2) c.k
  have e2 : (S.xs.map fun q => moX K (q.1 K))[i]? = (S.xs.map fun q => q.2)[i]? := by rw [← c2]
  rw [List.getElem?_map, List.getElem?_map, e] at e2
  exact Option.some.inj e2
end
/-! ### the end: the written part is told by what the head says -/
theorem walk_tab {l : PySem.W.OpenLaw} {n k : Nat} {q : Program} {loose : List Str} {XP : (Str → Option Value) → Heap → Prop} {YP : World → Heap → Prop} {d : DefRec} {CX : World → CXT} {x : Str}
    (hn : l.most = some n) (hn2 : n ≤ sizeLine) (hdf : d.params.defaults = []) (hr : Room k callerA)
    (F : ∀ (w : World) (mg : Str → Option Value) (fa : Addr) (h : Heap), YP w h → h.Ns mainGlobals mg → mg d.name = some (.ref fa) → ∃ K : PySem.W.Frag, K.In h ∧ LamX.LawAtS l w K (CX w) k n x mg fa h)
    (hCX : ∀ (w : World) (H : Hp) (s : Shared) (e : Value) (s' : Shared), CX w [] H s (fun _ _ _ => False) e s' → False) :
    PySem.W.WalkO q loose XP YP l.row.toRowW d [] (fun f vs => PySem.call f vs) := by
  refine Att.attach_callB hn hdf fun w s₀ s₁ mg mb fa o pm cd doc a vs ns G Y ho hd hcd hmg hobj hints hlen hbits hg => ?_
  obtain ⟨K, KX, fd, cs, sp, hT, nT, C, hb, hsp, hF⟩ := F w mg fa _ Y G.T.g hmg
  exact LamX.law_callTs KX G.T.g G.T.b G.T.builtins G.T.nolimit hg hT nT C G.T.bmain hobj hints (Nat.le_trans hlen hn2) hr hF hb (fun H hH hS => hsp H a ns hlen hbits hH hS) fun H e s' => hCX w H s₁ e s'
end Hq2

/-! the kernel's run in parts: each part runs the top anew and looks at something else -/
noncomputable section
namespace Hq3
open PySem PySem.Spec PyProof.Rows PySem.W HandSHeadRun
def app (S T : Hq2.Spc) : Hq2.Spc := ⟨fun K => S.bs K ++ T.bs K, S.fs ++ T.fs, S.xs ++ T.xs, fun K => S.cs K ++ T.cs K⟩
theorem obsG_app {n : Nat} {S T : Hq2.Spc} {g : Addr → Option Obj} (h1 : Hq2.obsG n S g = (Hq2.wanted S, true)) (h2 : Hq2.obsG n T g = (Hq2.wanted T, true)) : Hq2.obsG n (app S T) g = (Hq2.wanted (app S T), true) := by
  unfold Hq2.obsG at *
  generalize Hq2.frX n g = K at *
  have a1 := congrArg (fun z : Hq2.Av × Bool => z.1.1) h1
  have a2 := congrArg (fun z : Hq2.Av × Bool => z.1.2.1) h1
  have a3 := congrArg (fun z : Hq2.Av × Bool => z.1.2.2) h1
  have a4 := congrArg (fun z : Hq2.Av × Bool => z.2) h1
  have b1 := congrArg (fun z : Hq2.Av × Bool => z.1.1) h2
  have b2 := congrArg (fun z : Hq2.Av × Bool => z.1.2.1) h2
  have b3 := congrArg (fun z : Hq2.Av × Bool => z.1.2.2) h2
  have b4 := congrArg (fun z : Hq2.Av × Bool => z.2) h2
  dsimp only [Hq2.obsK, Hq2.wanted] at a1 a2 a3 b1 b2 b3
  dsimp only at a4 b4
  have e1 : Hq2.obsK (app S T) K = Hq2.wanted (app S T) := by
    unfold Hq2.obsK Hq2.wanted app
    simp only [List.map_append, List.all_append, a1, a2, a3, b1, b2, b3]
    rfl
  have e2 : Hq2.tabB (app S T) g K = true := by
    unfold Hq2.tabB app at *
    rw [List.all_append, a4, b4]
    rfl
  rw [e1, e2]
/-- the top's run, to its end -/
abbrev whole (r : OpenRow) (M : Nat) (w : World) := wholeF (fun p => stepQ (denQ tabQ) p w) fenceQ M r.prog
theorem run_of {r : OpenRow} {q : Program} {n M : Nat} {S : Hq2.Spc} {ob : SharedT → Hq2.Av × Bool} {loose : List PySem.Str} {w : World} (ho : ∀ s, ob s = Hq2.obsG n S (HandSHeadRun.getT s)) (a : (whole r M w).map (fun x => looksF r.prog x.1.heap x.2.abs) = some true)
    (b : (whole r M w).map (fun x => seenQ q loose (importedModules r.prog.main.body) (fun s => xlAt q [] s && recOk r.toRowW.records s) x.2.abs) = some (openGood q loose))
    (c : (whole r M w).map (fun x => Hq2.obsG n S (HandSHeadRun.getT x.2)) = some (Hq2.wanted S, true)) : RunEqI r q (Hq2.hook n S) ob M loose w := by
  show (whole r M w).map _ = _
  cases e : whole r M w with
  | none => rw [e] at a; cases a
  | some x =>
    rw [e] at a b c
    simp only [Option.map_some, Option.some.injEq] at a b c ⊢
    rw [a, b, ho, c]
    rfl
theorem run_app {r : OpenRow} {n M : Nat} {S T : Hq2.Spc} {w : World} (c : (whole r M w).map (fun x => Hq2.obsG n S (HandSHeadRun.getT x.2)) = some (Hq2.wanted S, true)) (d : (whole r M w).map (fun x => Hq2.obsG n T (HandSHeadRun.getT x.2)) = some (Hq2.wanted T, true)) :
    (whole r M w).map (fun x => Hq2.obsG n (app S T) (HandSHeadRun.getT x.2)) = some (Hq2.wanted (app S T), true) := by
  cases e : whole r M w with
  | none => rw [e] at c; cases c
  | some x =>
    rw [e] at c d
    simp only [Option.map_some, Option.some.injEq] at c d ⊢
    exact obsG_app c d
end Hq3

namespace W6
open PySem PySem.Spec PyProof.Rows L2 Ru StX
def isS {α : Type} : Option α → Bool | some _ => true | none => false
def gloB (K : PySem.W.Frag) (x : Str) : Bool := He.eqO (PySem.W.nsIn K mainGlobals x) (some (some (.ref (He.ga K x))))
def epL (K : PySem.W.Frag) (nm : Str) : List Bool := [gloB K nm, Hq2.excB K (He.ga K nm), PySem.W.excIn K (He.ga K nm) [.type "ValueError", .type "Exception", .type "BaseException", .type "object"] "ValueError.__new__", PySem.W.keepIn K (.ref (He.ga K nm)), decide (PySem.W.subIn K (.ref (He.ga K nm)) (.type "BaseException") = some true), decide (PySem.W.typeIn K (.ref (He.ga K nm)) = some (Value.type "type"))]
def eiL (K : PySem.W.Frag) (nm q file : Str) : List Bool := [gloB K nm, Hq2.excB K (He.ga K nm), He.eqO (PySem.W.nsIn K mainGlobals "super") (some none), Hq2.ixB K (He.ga K nm), Hq.coB K (He.ma K (He.ga K nm) "__init__") q, Hq2.ccB K (He.ma K (He.ga K nm) "__init__") (He.ga K nm), Hq2.flB K (He.ma K (He.ga K nm) "__init__") file]
def xmB (K : PySem.W.Frag) (x y : Str) (c : Bool) : Bool := decide (PySem.W.exmOne K (.ref (He.ga K x)) (.ref (He.ga K y)) = some c)

abbrev s_IX_InvalidSetting : Stmt := inClass (top 13) 0

def wmL (K : PySem.W.Frag) : List Bool := [mroHd K (He.ga K "Weather"), PySem.W.selfFirst K (He.ga K "Weather"), He.eqO (PySem.W.findIn K (.ref (He.ga K "Weather")) (PySem.dunder "mul")) (some (some (.ref (He.ma K (He.ga K "Weather") "__mul__")))), PySem.W.isFn K (.ref (He.ma K (He.ga K "Weather") "__mul__")),
  He.eqO (PySem.W.findIn K (.ref (He.ga K "Weather")) (dunderR "mul")) (some none), isS (PySem.W.findIn K (.type "int") (PySem.dunder "mul")), isS (PySem.W.findIn K (.type "int") (dunderR "mul")), decide (PySem.W.subIn K (.type "int") (.ref (He.ga K "Weather")) = some false)]

def stL (K : PySem.W.Frag) : List Bool := [He.eqO (PySem.W.findIn K (.ref (He.ga K "HourSetting")) "lets_switch") (some (some (.ref (He.ma K (He.ga K "Setting") "lets_switch")))), PySem.W.isFn K (.ref (He.ma K (He.ga K "Setting") "lets_switch")), PySem.W.keepIn K (.ref (He.ma K (He.ga K "Setting") "lets_switch")),
  PySem.W.fnIn K (He.ma K (He.ga K "Weather") "__getitem__"), He.eqO (PySem.W.nsIn K cStatics "thirdparty.any") (some none), He.eqO (PySem.W.nsIn K mainGlobals "super") (some none), isS (PySem.W.clsIn K (He.ga K "RestSetting")), decide (PySem.W.mroIn K (He.ga K "RestSetting") (.ref (He.ga K "RestSetting")) = some true),
  He.eqO (PySem.W.ks_superIn K (He.ga K "RestSetting") (He.ga K "RestSetting") "__init__") (some (some (.ref (He.ma K (He.ga K "Setting") "__init__")))), He.eqO (PySem.W.ks_superIn K (He.ga K "RestSetting") (He.ga K "RestSetting") "thresholds") (some (some (.ref (He.ma K (He.ga K "Setting") "thresholds")))),
  decide (PySem.W.typeIn K (.ref (He.ma K (He.ga K "Setting") "__init__")) = some (.type "function")), PySem.W.fnIn K (He.ma K (He.ga K "Setting") "__init__"), decide (PySem.W.typeIn K (.ref (He.ma K (He.ga K "Setting") "thresholds")) = some (.type "function")), PySem.W.fnIn K (He.ma K (He.ga K "Setting") "thresholds")]

def conS (K : PySem.W.Frag) (C : Addr) (x s : Str) : Bool := match PySem.W.findIn K (.ref C) x with
  | some (some (.str v t)) => decide (v = s) && He.eqO (PySem.W.specialIn K (.str v t) "__get__") (some none)
  | _ => false
def cvS (K : PySem.W.Frag) (C : Addr) (x s : Str) : Bool := match PySem.W.findCls K (.ref C) (.type "type") x with
  | some (.val (.str v t)) => decide (v = s)
  | _ => false
def kdL (K : PySem.W.Frag) (n s : Str) : List Bool := [conS K (He.ga K n) "KIND" s, cvS K (He.ga K n) "KIND" s, PySem.W.readsIn K (He.ga K n) (.type "type"), He.eqO (PySem.W.specialIn K (.ref (He.ga K n)) "__getattribute__") (some (some (.builtin "type.__getattribute__"))),
  He.eqO (PySem.W.findIn K (.ref (He.ga K n)) "__class__") (some (some (.builtin "object.__class__"))), He.eqO (PySem.W.specialIn K (.builtin "object.__class__") "__get__") (some (some (.builtin "getset_descriptor.__get__"))), decide (PySem.W.takesIn K (.builtin "object.__class__") = some true),
  decide (PySem.W.mroIn K (He.ga K n) (.type "object") = some true), decide (PySem.W.kitOne K (.ref (He.ga K n)) (.ref (He.ga K "Setting")) = some true)]

def nsB (K : PySem.W.Frag) : Bool := decide (PySem.W.subIn K (.ref (He.ga K "InvalidNumber")) (.type "StopIteration") = some false)
abbrev hR : PySem.W.OpenRow := PySem.W.OpenLaw.row PySem.Challenge.rw_warmswitch_k41_settings_tick_by_tick
def hb0 (K : PySem.W.Frag) : List Bool := [
  He.eqO (PySem.W.nsIn K mainGlobals "Weather") (some (some (.ref (He.ga K "Weather")))),
  PySem.W.plainGet K (He.ga K "Weather") Str.empty,
  PySem.W.hasDictIn K (He.ga K "Weather"),
  PySem.W.plainOver K (He.ga K "Weather"),
  He.eqO (PySem.W.findIn K (.ref (He.ga K "Weather")) "__setattr__") (some (some (.builtin "object.__setattr__"))),
  He.eqO (PySem.W.findIn K (.ref (He.ga K "Weather")) "_changes") (some none),
  He.eqO (PySem.W.nsIn K mainGlobals "Setting") (some (some (.ref (He.ga K "Setting")))),
  PySem.W.plainGet K (He.ga K "Setting") Str.empty,
  PySem.W.hasDictIn K (He.ga K "Setting"),
  PySem.W.plainOver K (He.ga K "Setting"),
  He.eqO (PySem.W.findIn K (.ref (He.ga K "Setting")) "__setattr__") (some (some (.builtin "object.__setattr__"))),
  He.eqO (PySem.W.findIn K (.ref (He.ga K "Setting")) "_low") (some none),
  He.eqO (PySem.W.findIn K (.ref (He.ga K "Setting")) "_high") (some none),
  He.eqO (PySem.W.nsIn K mainGlobals "HourSetting") (some (some (.ref (He.ga K "HourSetting")))),
  PySem.W.plainGet K (He.ga K "HourSetting") Str.empty,
  PySem.W.hasDictIn K (He.ga K "HourSetting"),
  PySem.W.plainOver K (He.ga K "HourSetting"),
  He.eqO (PySem.W.findIn K (.ref (He.ga K "HourSetting")) "__setattr__") (some (some (.builtin "object.__setattr__"))),
  He.eqO (PySem.W.findIn K (.ref (He.ga K "HourSetting")) "_length") (some none),
  He.eqO (PySem.W.findIn K (.ref (He.ga K "HourSetting")) "_parts") (some none),
  He.eqO (PySem.W.nsIn K mainGlobals "RestSetting") (some (some (.ref (He.ga K "RestSetting")))),
  PySem.W.plainGet K (He.ga K "RestSetting") Str.empty,
  PySem.W.hasDictIn K (He.ga K "RestSetting"),
  PySem.W.plainOver K (He.ga K "RestSetting"),
  He.eqO (PySem.W.findIn K (.ref (He.ga K "RestSetting")) "__setattr__") (some (some (.builtin "object.__setattr__"))),
  He.eqO (PySem.W.findIn K (.ref (He.ga K "RestSetting")) "_low") (some none),
  He.eqO (PySem.W.findIn K (.ref (He.ga K "RestSetting")) "_high") (some none),
  He.eqO (PySem.W.findIn K (.ref (He.ga K "RestSetting")) "_rest") (some none),
  He.eqO (PySem.W.nsIn K mainGlobals "first_invalid") (some (some (.ref (He.ga K "first_invalid")))),
  PySem.W.keepIn K (.ref (He.ga K "first_invalid"))]
def hb1 (K : PySem.W.Frag) : List Bool := [
  He.eqO (PySem.W.nsIn K mainGlobals "added_rounds") (some (some (.ref (He.ga K "added_rounds")))),
  PySem.W.keepIn K (.ref (He.ga K "added_rounds")),
  He.eqO (PySem.W.nsIn K mainGlobals "heater_state") (some (some (.ref (He.ga K "heater_state")))),
  PySem.W.keepIn K (.ref (He.ga K "heater_state")),
  He.eqO (PySem.W.nsIn K mainGlobals "check_number") (some (some (.ref (He.ga K "check_number")))),
  PySem.W.keepIn K (.ref (He.ga K "check_number")),
  He.eqO (PySem.W.findIn K (.ref (He.ga K "Weather")) "__init__") (some (some (.ref (He.ma K (He.ga K "Weather") "__init__")))),
  PySem.W.isFn K (.ref (He.ma K (He.ga K "Weather") "__init__")),
  PySem.W.keepIn K (.ref (He.ma K (He.ga K "Weather") "__init__")),
  PySem.W.makesIn K (He.ga K "Weather"),
  PySem.W.keepIn K (.ref (He.ga K "Weather")),
  He.eqO (PySem.W.findIn K (.ref (He.ga K "Weather")) "__len__") (some (some (.ref (He.ma K (He.ga K "Weather") "__len__")))),
  PySem.W.isFn K (.ref (He.ma K (He.ga K "Weather") "__len__")),
  PySem.W.keepIn K (.ref (He.ma K (He.ga K "Weather") "__len__")),
  He.eqO (PySem.W.findIn K (.ref (He.ga K "Weather")) "__getitem__") (some (some (.ref (He.ma K (He.ga K "Weather") "__getitem__")))),
  PySem.W.isFn K (.ref (He.ma K (He.ga K "Weather") "__getitem__")),
  PySem.W.keepIn K (.ref (He.ma K (He.ga K "Weather") "__getitem__")),
  He.eqO (PySem.W.findIn K (.ref (He.ga K "Weather")) "__add__") (some (some (.ref (He.ma K (He.ga K "Weather") "__add__")))),
  PySem.W.isFn K (.ref (He.ma K (He.ga K "Weather") "__add__")),
  PySem.W.keepIn K (.ref (He.ma K (He.ga K "Weather") "__add__")),
  He.eqO (PySem.W.findIn K (.ref (He.ga K "Weather")) "__mul__") (some (some (.ref (He.ma K (He.ga K "Weather") "__mul__")))),
  PySem.W.isFn K (.ref (He.ma K (He.ga K "Weather") "__mul__")),
  PySem.W.keepIn K (.ref (He.ma K (He.ga K "Weather") "__mul__")),
  He.eqO (PySem.W.nsIn K mainGlobals "can_be_thresholds") (some (some (.ref (He.ga K "can_be_thresholds")))),
  PySem.W.keepIn K (.ref (He.ga K "can_be_thresholds")),
  He.eqO (PySem.W.findIn K (.ref (He.ga K "Setting")) "__init__") (some (some (.ref (He.ma K (He.ga K "Setting") "__init__")))),
  PySem.W.isFn K (.ref (He.ma K (He.ga K "Setting") "__init__")),
  PySem.W.keepIn K (.ref (He.ma K (He.ga K "Setting") "__init__")),
  PySem.W.makesIn K (He.ga K "Setting"),
  PySem.W.keepIn K (.ref (He.ga K "Setting"))]
def hb2 (K : PySem.W.Frag) : List Bool := [
  He.eqO (PySem.W.findIn K (.ref (He.ga K "Setting")) "thresholds") (some (some (.ref (He.ma K (He.ga K "Setting") "thresholds")))),
  PySem.W.isFn K (.ref (He.ma K (He.ga K "Setting") "thresholds")),
  PySem.W.keepIn K (.ref (He.ma K (He.ga K "Setting") "thresholds")),
  He.eqO (PySem.W.findIn K (.ref (He.ga K "Setting")) "lets_switch") (some (some (.ref (He.ma K (He.ga K "Setting") "lets_switch")))),
  PySem.W.isFn K (.ref (He.ma K (He.ga K "Setting") "lets_switch")),
  PySem.W.keepIn K (.ref (He.ma K (He.ga K "Setting") "lets_switch")),
  He.eqO (PySem.W.findIn K (.ref (He.ga K "HourSetting")) "__init__") (some (some (.ref (He.ma K (He.ga K "HourSetting") "__init__")))),
  PySem.W.isFn K (.ref (He.ma K (He.ga K "HourSetting") "__init__")),
  PySem.W.keepIn K (.ref (He.ma K (He.ga K "HourSetting") "__init__")),
  PySem.W.makesIn K (He.ga K "HourSetting"),
  PySem.W.keepIn K (.ref (He.ga K "HourSetting")),
  He.eqO (PySem.W.findIn K (.ref (He.ga K "HourSetting")) "thresholds") (some (some (.ref (He.ma K (He.ga K "HourSetting") "thresholds")))),
  PySem.W.isFn K (.ref (He.ma K (He.ga K "HourSetting") "thresholds")),
  PySem.W.keepIn K (.ref (He.ma K (He.ga K "HourSetting") "thresholds")),
  He.eqO (PySem.W.findIn K (.ref (He.ga K "RestSetting")) "__init__") (some (some (.ref (He.ma K (He.ga K "RestSetting") "__init__")))),
  PySem.W.isFn K (.ref (He.ma K (He.ga K "RestSetting") "__init__")),
  PySem.W.keepIn K (.ref (He.ma K (He.ga K "RestSetting") "__init__")),
  PySem.W.makesIn K (He.ga K "RestSetting"),
  PySem.W.keepIn K (.ref (He.ga K "RestSetting")),
  He.eqO (PySem.W.findIn K (.ref (He.ga K "RestSetting")) "thresholds") (some (some (.ref (He.ma K (He.ga K "RestSetting") "thresholds")))),
  PySem.W.isFn K (.ref (He.ma K (He.ga K "RestSetting") "thresholds")),
  PySem.W.keepIn K (.ref (He.ma K (He.ga K "RestSetting") "thresholds")),
  He.eqO (PySem.W.findIn K (.ref (He.ga K "RestSetting")) "lets_switch") (some (some (.ref (He.ma K (He.ga K "RestSetting") "lets_switch")))),
  PySem.W.isFn K (.ref (He.ma K (He.ga K "RestSetting") "lets_switch")),
  PySem.W.keepIn K (.ref (He.ma K (He.ga K "RestSetting") "lets_switch")),
  He.eqO (PySem.W.nsIn K mainGlobals "first_invalid_part") (some (some (.ref (He.ga K "first_invalid_part")))),
  PySem.W.keepIn K (.ref (He.ga K "first_invalid_part")),
  He.eqO (PySem.W.nsIn K mainGlobals "watch") (some (some (.ref (He.ga K "watch")))),
  PySem.W.keepIn K (.ref (He.ga K "watch")),
  He.eqO (PySem.W.nsIn K mainGlobals "totals") (some (some (.ref (He.ga K "totals"))))]
def hb3 (K : PySem.W.Frag) : List Bool := [
  PySem.W.keepIn K (.ref (He.ga K "totals")),
  He.eqO (PySem.W.nsIn K mainGlobals "_law_start") (some (some (.ref (He.ga K "_law_start")))),
  PySem.W.keepIn K (.ref (He.ga K "_law_start")),
  He.eqO (PySem.W.nsIn K mainGlobals "_law_drawn") (some (some (.ref (He.ga K "_law_drawn")))),
  PySem.W.keepIn K (.ref (He.ga K "_law_drawn")),
  He.eqO (PySem.W.nsIn K mainGlobals "_law_same") (some (some (.ref (He.ga K "_law_same")))),
  PySem.W.keepIn K (.ref (He.ga K "_law_same")),
  He.eqO (PySem.W.nsIn K mainGlobals "_law_outcome") (some (some (.ref (He.ga K "_law_outcome")))),
  PySem.W.keepIn K (.ref (He.ga K "_law_outcome")),
  He.eqO (PySem.W.nsIn K mainGlobals "_law_changes") (some (some (.ref (He.ga K "_law_changes")))),
  PySem.W.keepIn K (.ref (He.ga K "_law_changes")),
  He.eqO (PySem.W.nsIn K mainGlobals "_law_weather") (some (some (.ref (He.ga K "_law_weather")))),
  PySem.W.keepIn K (.ref (He.ga K "_law_weather")),
  He.eqO (PySem.W.nsIn K mainGlobals "_law_single") (some (some (.ref (He.ga K "_law_single")))),
  PySem.W.keepIn K (.ref (He.ga K "_law_single")),
  He.eqO (PySem.W.nsIn K mainGlobals "_law_parts") (some (some (.ref (He.ga K "_law_parts")))),
  PySem.W.keepIn K (.ref (He.ga K "_law_parts")),
  He.eqO (PySem.W.nsIn K mainGlobals "_law_setting") (some (some (.ref (He.ga K "_law_setting")))),
  PySem.W.keepIn K (.ref (He.ga K "_law_setting")),
  He.eqO (PySem.W.nsIn K mainGlobals "_law_watched") (some (some (.ref (He.ga K "_law_watched")))),
  PySem.W.keepIn K (.ref (He.ga K "_law_watched")),
  He.eqO (PySem.W.nsIn K mainGlobals "_law_refused") (some (some (.ref (He.ga K "_law_refused")))),
  PySem.W.keepIn K (.ref (He.ga K "_law_refused")),
  He.eqO (PySem.W.nsIn K mainGlobals "law") (some (some (.ref (He.ga K "law")))),
  PySem.W.keepIn K (.ref (He.ga K "law")),
  He.eqO (PySem.W.findIn K (.ref (He.ga K "Weather")) "changes") (some (some (.ref (He.ma K (He.ga K "Weather") "changes")))),
  He.eqO (PySem.W.specialIn K (.ref (He.ma K (He.ga K "Weather") "changes")) "__get__") (some (some (.builtin "property.__get__"))),
  decide (PySem.W.takesIn K (.ref (He.ma K (He.ga K "Weather") "changes")) = some true),
  Hq.gtB K (He.ma K (He.ga K "Weather") "changes"),
  PySem.W.keepIn K (.ref (Hq.gtA K (He.ma K (He.ga K "Weather") "changes")))]
def hb4 (K : PySem.W.Frag) : List Bool := [
  Hq.inB K "MOST_TICKS" 1000000000000000000,
  Hq.inB K "MOST_GAIN" 200,
  Hq.inB K "MOST_DEGREES" 1000000000000,
  Hq.inB K "MOST_REST" 1000,
  Hq.inB K "MOST_WATCHED" 10000,
  He.eqO (PySem.W.nsIn K mainGlobals "lcm") (some (some (.builtin "math.lcm"))),
  He.eqO (PySem.W.nsIn K mainGlobals "bool") (some none),
  He.eqO (PySem.W.nsIn K mainGlobals "enumerate") (some none),
  He.eqO (PySem.W.nsIn K mainGlobals "int") (some none),
  He.eqO (PySem.W.nsIn K mainGlobals "isinstance") (some none),
  He.eqO (PySem.W.nsIn K mainGlobals "len") (some none),
  He.eqO (PySem.W.nsIn K mainGlobals "list") (some none),
  He.eqO (PySem.W.nsIn K mainGlobals "min") (some none),
  He.eqO (PySem.W.nsIn K mainGlobals "range") (some none),
  He.eqO (PySem.W.nsIn K mainGlobals "tuple") (some none),
  Hq.cvB K (He.ga K "HourSetting") "MAX_LENGTH" 24,
  Hq.cvB K (He.ga K "Weather") "MAX_CHANGE" 100,
  Hq.cvB K (He.ga K "Weather") "MAX_TICKS" 24,
  (epL K "InvalidNumber").all id,
  (eiL K "InvalidSetting" "InvalidSetting.__init__" hR.prog.main.file).all id,
  xmB K "InvalidNumber" "InvalidNumber" true,
  xmB K "InvalidSetting" "InvalidNumber" false,
  xmB K "InvalidSetting" "InvalidSetting" true,
  (wmL K).all id,
  (stL K).all id,
  (kdL K "Setting" "plain").all id,
  (kdL K "HourSetting" "hours").all id,
  (kdL K "RestSetting" "rest").all id,
  Hq2.cvalB K (He.ga K "HourSetting") "MAX_LENGTH" 24,
  nsB K]
def hb5 (K : PySem.W.Frag) : List Bool := [
  Hq.coB K (He.ma K (He.ga K "RestSetting") "__init__") "RestSetting.__init__",
  Hq2.ccB K (He.ma K (He.ga K "RestSetting") "__init__") (He.ga K "RestSetting"),
  Hq2.flB K (He.ma K (He.ga K "RestSetting") "__init__") hR.prog.main.file,
  Hq.coB K (He.ma K (He.ga K "RestSetting") "thresholds") "RestSetting.thresholds",
  Hq2.ccB K (He.ma K (He.ga K "RestSetting") "thresholds") (He.ga K "RestSetting"),
  Hq2.flB K (He.ma K (He.ga K "RestSetting") "thresholds") hR.prog.main.file,
  Hq.coB K (He.ga K "first_invalid") "first_invalid",
  Hq.coB K (He.ga K "added_rounds") "added_rounds",
  Hq.coB K (He.ga K "heater_state") "heater_state",
  Hq.coB K (He.ga K "check_number") "check_number",
  Hq.coB K (He.ma K (He.ga K "Weather") "__init__") "Weather.__init__",
  Hq.coB K (He.ma K (He.ga K "Weather") "__len__") "Weather.__len__",
  Hq.coB K (He.ma K (He.ga K "Weather") "__getitem__") "Weather.__getitem__",
  Hq.coB K (He.ma K (He.ga K "Weather") "__add__") "Weather.__add__",
  Hq.coB K (He.ma K (He.ga K "Weather") "__mul__") "Weather.__mul__",
  Hq.coB K (He.ga K "can_be_thresholds") "can_be_thresholds",
  Hq.coB K (He.ma K (He.ga K "Setting") "__init__") "Setting.__init__",
  Hq.coB K (He.ma K (He.ga K "Setting") "thresholds") "Setting.thresholds",
  Hq.coB K (He.ma K (He.ga K "Setting") "lets_switch") "Setting.lets_switch",
  Hq.coB K (He.ma K (He.ga K "HourSetting") "__init__") "HourSetting.__init__",
  Hq.coB K (He.ma K (He.ga K "HourSetting") "thresholds") "HourSetting.thresholds",
  Hq.coB K (He.ma K (He.ga K "RestSetting") "lets_switch") "RestSetting.lets_switch",
  Hq.coB K (He.ga K "first_invalid_part") "first_invalid_part",
  Hq.coB K (He.ga K "watch") "watch",
  Hq.coB K (He.ga K "totals") "totals",
  Hq.coB K (He.ga K "_law_start") "_law_start",
  Hq.coB K (He.ga K "_law_drawn") "_law_drawn",
  Hq.coB K (He.ga K "_law_same") "_law_same",
  Hq.coB K (He.ga K "_law_outcome") "_law_outcome",
  Hq.coB K (He.ga K "_law_changes") "_law_changes"]
def hb6 (K : PySem.W.Frag) : List Bool := [
  Hq.coB K (He.ga K "_law_weather") "_law_weather",
  Hq.coB K (He.ga K "_law_single") "_law_single",
  Hq.coB K (He.ga K "_law_parts") "_law_parts",
  Hq.coB K (He.ga K "_law_setting") "_law_setting",
  Hq.coB K (He.ga K "_law_watched") "_law_watched",
  Hq.coB K (He.ga K "_law_refused") "_law_refused",
  Hq.coB K (He.ga K "law") "law",
  Hq.coB K (Hq.gtA K (He.ma K (He.ga K "Weather") "changes")) "Weather.changes"]
def hf0 : List ((PySem.W.Frag → Addr) × Hq.Mv) := [
  (fun K => (He.ga K "first_invalid"), Hq.mv "first_invalid" "first_invalid" s_first_invalid),
  (fun K => (He.ga K "added_rounds"), Hq.mv "added_rounds" "added_rounds" s_added_rounds),
  (fun K => (He.ga K "heater_state"), Hq.mv "heater_state" "heater_state" s_heater_state),
  (fun K => (He.ga K "check_number"), Hq.mv "check_number" "check_number" s_check_number),
  (fun K => (He.ma K (He.ga K "Weather") "__init__"), Hq.mv "__init__" "Weather.__init__" s_Weather_init),
  (fun K => (He.ma K (He.ga K "Weather") "__len__"), Hq.mv "__len__" "Weather.__len__" s_Weather_len),
  (fun K => (He.ma K (He.ga K "Weather") "__getitem__"), Hq.mv "__getitem__" "Weather.__getitem__" s_Weather_getitem),
  (fun K => (He.ma K (He.ga K "Weather") "__add__"), Hq.mv "__add__" "Weather.__add__" s_Weather_add),
  (fun K => (He.ma K (He.ga K "Weather") "__mul__"), Hq.mv "__mul__" "Weather.__mul__" s_Weather_mul),
  (fun K => (He.ga K "can_be_thresholds"), Hq.mv "can_be_thresholds" "can_be_thresholds" s_can_be_thresholds),
  (fun K => (He.ma K (He.ga K "Setting") "__init__"), Hq.mv "__init__" "Setting.__init__" s_Setting_init),
  (fun K => (He.ma K (He.ga K "Setting") "thresholds"), Hq.mv "thresholds" "Setting.thresholds" s_Setting_thresholds),
  (fun K => (He.ma K (He.ga K "Setting") "lets_switch"), Hq.mv "lets_switch" "Setting.lets_switch" s_Setting_lets_switch),
  (fun K => (He.ma K (He.ga K "HourSetting") "__init__"), Hq.mv "__init__" "HourSetting.__init__" s_HourSetting_init),
  (fun K => (He.ma K (He.ga K "HourSetting") "thresholds"), Hq.mv "thresholds" "HourSetting.thresholds" s_HourSetting_thresholds),
  (fun K => (He.ma K (He.ga K "RestSetting") "lets_switch"), Hq.mv "lets_switch" "RestSetting.lets_switch" s_RestSetting_lets_switch),
  (fun K => (He.ga K "first_invalid_part"), Hq.mv "first_invalid_part" "first_invalid_part" s_first_invalid_part),
  (fun K => (He.ga K "watch"), Hq.mv "watch" "watch" s_watch),
  (fun K => (He.ga K "totals"), Hq.mv "totals" "totals" s_totals),
  (fun K => (He.ga K "_law_start"), Hq.mv "_law_start" "_law_start" s__law_start),
  (fun K => (He.ga K "_law_drawn"), Hq.mv "_law_drawn" "_law_drawn" s__law_drawn),
  (fun K => (He.ga K "_law_same"), Hq.mv "_law_same" "_law_same" s__law_same),
  (fun K => (He.ga K "_law_outcome"), Hq.mv "_law_outcome" "_law_outcome" s__law_outcome),
  (fun K => (He.ga K "_law_changes"), Hq.mv "_law_changes" "_law_changes" s__law_changes),
  (fun K => (He.ga K "_law_weather"), Hq.mv "_law_weather" "_law_weather" s__law_weather),
  (fun K => (He.ga K "_law_single"), Hq.mv "_law_single" "_law_single" s__law_single),
  (fun K => (He.ga K "_law_parts"), Hq.mv "_law_parts" "_law_parts" s__law_parts),
  (fun K => (He.ga K "_law_setting"), Hq.mv "_law_setting" "_law_setting" s__law_setting),
  (fun K => (He.ga K "_law_watched"), Hq.mv "_law_watched" "_law_watched" s__law_watched),
  (fun K => (He.ga K "_law_refused"), Hq.mv "_law_refused" "_law_refused" s__law_refused)]
def hf1 : List ((PySem.W.Frag → Addr) × Hq.Mv) := [
  (fun K => (He.ga K "law"), Hq.mv "law" "law" s_law),
  (fun K => (Hq.gtA K (He.ma K (He.ga K "Weather") "changes")), Hq.mv "changes" "Weather.changes" s_Weather_changes)]
def hS0 : Hq2.Spc := ⟨fun K => hb0 K ++ (hb1 K ++ (hb2 K)), hf0, [], fun K => []⟩
def hS1 : Hq2.Spc := ⟨fun K => hb3 K ++ (hb4 K ++ (hb5 K ++ (hb6 K))), hf1, [(fun K => He.ma K (He.ga K "InvalidSetting") "__init__", Hq2.mvX "__init__" "InvalidSetting.__init__" s_IX_InvalidSetting), (fun K => (He.ma K (He.ga K "RestSetting") "__init__"), Hq2.mvX "__init__" "RestSetting.__init__" s_RestSetting_init), (fun K => (He.ma K (He.ga K "RestSetting") "thresholds"), Hq2.mvX "thresholds" "RestSetting.thresholds" s_RestSetting_thresholds)], fun K => [He.cT K ("_law_refused", none)]⟩
abbrev hS : Hq2.Spc := (Hq3.app hS0 hS1)
def hn0 : List PySem.Str := ["_wall", "first_invalid", "sum_of_first", "same_rounds", "added_rounds", "heater_state", "WarmthError", "InvalidWeather", "InvalidNumber", "InvalidSetting", "check_number", "MOST_TICKS", "Weather", "MOST_GAIN", "MOST_DEGREES", "can_be_thresholds", "MOST_REST", "MOST_WATCHED", "Setting", "HourSetting", "RestSetting", "first_invalid_part", "watch", "totals", "_law_start", "_law_drawn", "_law_same", "_law_outcome", "_law_changes", "_law_weather"]
def hn1 : List PySem.Str := ["_law_single", "_law_parts", "_law_setting", "_law_watched", "_law_refused"]
def hn : List PySem.Str := hn0 ++ (hn1)
abbrev hV : Program := PySem.W.view hR.prog [0, 43]
abbrev hk : PySem.W.Hook := Hq2.hook 5 hS
def hob (s : PySem.W.SharedT) : Hq2.Av × Bool := Hq2.obsG 5 hS (HandSHeadRun.getT s)
theorem hob_eq (s : PySem.W.SharedT) : hob s = hk.obs s.abs := Hq2.obsG_eq (HandSHeadRun.getT_eq s)
end W6

namespace W6
open PySem PySem.Spec PyProof.Rows L2 Ru StX
set_option maxHeartbeats 0 in
theorem hrunA (w : World) : (Hq3.whole hR 40000 w).map (fun x => HandSHeadRun.looksF hR.prog x.1.heap x.2.abs) = some true := by kernel_rfl
end W6

namespace W6
open PySem PySem.Spec PyProof.Rows L2 Ru StX
set_option maxHeartbeats 0 in
theorem hrunB (w : World) : (Hq3.whole hR 40000 w).map (fun x => HandSHeadRun.seenQ hV hn (importedModules hR.prog.main.body) (fun s => PySem.W.xlAt hV [] s && PySem.W.recOk hR.toRowW.records s) x.2.abs) = some (PySem.W.openGood hV hn) := by kernel_rfl
end W6

namespace W6
open PySem PySem.Spec PyProof.Rows L2 Ru StX
set_option maxHeartbeats 0 in
theorem hrun0 (w : World) : (Hq3.whole hR 40000 w).map (fun x => Hq2.obsG 5 hS0 (HandSHeadRun.getT x.2)) = some (Hq2.wanted hS0, true) := by kernel_rfl
end W6

namespace W6
open PySem PySem.Spec PyProof.Rows L2 Ru StX
set_option maxHeartbeats 0 in
theorem hrun1 (w : World) : (Hq3.whole hR 40000 w).map (fun x => Hq2.obsG 5 hS1 (HandSHeadRun.getT x.2)) = some (Hq2.wanted hS1, true) := by kernel_rfl
end W6

namespace W6
open PySem PySem.Spec PyProof.Rows L2 Ru StX
theorem hrun (w : World) : HandSHeadRun.RunEqI hR hV hk hob 40000 hn w := Hq3.run_of (fun _ => rfl) (hrunA w) (hrunB w) (Hq3.run_app (hrun0 w) (hrun1 w))
end W6

/-! what stands in the heap; the promises of the law's helpers -/
namespace W6
open PySem PySem.Spec PyProof.Rows L2
/-- all but two objects as they were -/
def Keep (x y : Addr) (H H' : Hp) : Prop := ∀ b o, b ≠ x → b ≠ y → H b = some o → H' b = some o
theorem Keep.refl (x y : Addr) (H : Hp) : Keep x y H H := fun _ _ _ _ h => h
theorem Keep.trans {x y : Addr} {H H1 H2 : Hp} (a : Keep x y H H1) (b : Keep x y H1 H2) : Keep x y H H2 := fun c o h1 h2 h => b c o h1 h2 (a c o h1 h2 h)
theorem Keep.of {x y : Addr} {H H1 : Hp} (a : Same H H1) : Keep x y H H1 := fun c o _ _ h => a c o h
/-- the draws: the mixed number, the cells, the index -/
def LH (H : Hp) (x y : Addr) : Prop := ∃ (m i : Int) (cs : List Int), H x = some (.lst [.int m, .ref y, .int i]) ∧ H y = some (.lst (cs.map V.int)) ∧ 0 ≤ m ∧ m < 2147483647 ∧ 0 ≤ i ∧ cs.length ≤ 63
theorem LH.ne {H : Hp} {x y : Addr} (h : LH H x y) : x ≠ y := by
  obtain ⟨m, i, cs, h1, h2, _⟩ := h
  refine ne_of h1 h2 fun e => ?_
  injection e with e
  cases cs with
  | nil => cases e
  | cons a r =>
    cases r with
    | nil => cases e
    | cons b r => simp at e
theorem LH.same {H H' : Hp} {x y : Addr} (h : LH H x y) (s : Same H H') : LH H' x y := by
  obtain ⟨m, i, cs, h1, h2, r⟩ := h
  exact ⟨m, i, cs, s _ _ h1, s _ _ h2, r⟩
/-- a free place is none of the two -/
theorem LH.off {H : Hp} {x y p : Addr} (h : LH H x y) (hp : H p = none) : p ≠ x ∧ p ≠ y := by
  obtain ⟨m, i, cs, h1, h2, r⟩ := h
  exact ⟨(ne_of_none h1 hp).symm, (ne_of_none h2 hp).symm⟩
theorem Keep.free {x y p : Addr} {H H' : Hp} (k : Keep x y H H') (h' : LH H' x y) (hp : H' p = none) : H p = none := by
  have o := h'.off hp
  cases e : H p with
  | none => rfl
  | some u => rw [k p u o.1 o.2 e] at hp; cases hp
/-- a new object -/
theorem same_upd {H : Hp} {p : Addr} {o : HO} (h : H p = none) : Same H (upd H p o) := fun b u e => by rw [upd_ne (ne_of_none e h)]; exact e
def spNext : Sp := fun vs H Q _ => ∃ (x y : Addr) (lim : Int), vs = [.ref x, .int lim] ∧ LH H x y ∧ 0 < lim ∧ lim < 18446744073709551616 ∧ ∀ r H', 0 ≤ r → r < lim → LH H' x y → Keep x y H H' → Q (.int r) H'
def spMix (K : PySem.W.Frag) : Sp := fun vs H Q _ => ∃ (c : Addr) (ns : List Int) (z : Int), vs = [.ref c, .int z] ∧ SqL K H c (ns.map V.int) ∧ 0 ≤ z ∧ z < 2147483647 ∧ ns.length ≤ 63 ∧ ∀ x y H', LH H' x y → Same H H' → H x = none → H y = none → Q (.ref x) H'
/-- some changes of a weather -/
def CH (cs : List Int) : Prop := 1 ≤ cs.length ∧ cs.length ≤ 24 ∧ ∀ c ∈ cs, -100 ≤ c ∧ c ≤ 100
def spChanges : Sp := fun vs H Q _ => ∃ (x y : Addr) (most : Int), vs = [.ref x, .int most] ∧ LH H x y ∧ 1 ≤ most ∧ most ≤ 24 ∧ ∀ p cs H', CH cs → (cs.length : Int) ≤ most → H' p = some (.tup (cs.map V.int)) → H p = none → LH H' x y → Keep x y H H' → Q (.ref p) H'
end W6
namespace W6
open PySem PySem.Spec PyProof.Rows L2
def spSetting : Sp := fun vs H Q _ => ∃ (x y : Addr), vs = [.ref x] ∧ LH H x y ∧ ∀ p (g lo hi st : Int) (on : Bool) H', 1 ≤ g → g ≤ 200 → lo ≤ hi → -100000000000 ≤ lo → hi ≤ 200000000000 → -1000000000000 ≤ st → st ≤ 1000000000000 → hi - lo ≤ 100000000000 → lo - 200000000000 ≤ st → st ≤ lo + 300000000000 →
  H' p = some (.tup [.int g, .int lo, .int hi, .int st, .bl on]) → H p = none → LH H' x y → Keep x y H H' → Q (.ref p) H'
def spDivisor : Sp := fun vs H Q _ => ∃ (x y : Nat), vs = [.int x, .int y] ∧ Q (.int ((Nat.gcd x y : Nat) : Int)) H
end W6
namespace W6
theorem ifF {c : Bool} {A B : Prop} (h : c = false) (b : B) : if c = true then A else B := by rw [h]; exact b
theorem ifT {c : Bool} {A B : Prop} (h : c = true) (x : A) : if c = true then A else B := by rw [h]; exact x
theorem dF {p : Prop} [Decidable p] (h : ¬ p) : decide p = false := decide_eq_false h
theorem dT {p : Prop} [Decidable p] (h : p) : decide p = true := decide_eq_true h
theorem nF {p : Prop} [Decidable p] (h : p) : (!decide p) = false := by rw [decide_eq_true h]; rfl
theorem nT {p : Prop} [Decidable p] (h : ¬ p) : (!decide p) = true := by rw [decide_eq_false h]; rfl
end W6

/-! the objects of the program in the heap, and the promises of its defs -/
namespace W6
open PySem PySem.Spec PyProof.Rows L2
/-- all but one as it was -/
def Fr1 (x : Addr) (H H' : Hp) : Prop := ∀ b o, b ≠ x → H b = some o → H' b = some o
theorem Fr1.of {x : Addr} {H H' : Hp} (h : Same H H') : Fr1 x H H' := fun b o _ e => h b o e
theorem Fr1.trans {x : Addr} {H H1 H2 : Hp} (a : Fr1 x H H1) (b : Fr1 x H1 H2) : Fr1 x H H2 := fun c o h e => b c o h (a c o h e)
theorem Fr1.upd {x : Addr} {H : Hp} {o : HO} : Fr1 x H (L2.upd H x o) := fun b u h e => by rw [upd_ne h]; exact e
/-- behind an __init__ all that stood before the instance was made stands -/
theorem Fr1.made {x dx C : Addr} {H H' : Hp} (nx : H x = none) (nd : H dx = none) (h : Fr1 x (L2.upd (L2.upd H dx (.own x)) x (.ins C dx [])) H') : Same H H' := fun b o e =>
  h b o (ne_of_none e nx) (by rw [upd_ne (ne_of_none e nx), upd_ne (ne_of_none e nd)]; exact e)
theorem same_made {x dx C : Addr} {H : Hp} (nx : H x = none) (nd : H dx = none) : Same H (L2.upd (L2.upd H dx (.own x)) x (.ins C dx [])) := fun b o e => by
  rw [upd_ne (ne_of_none e nx), upd_ne (ne_of_none e nd)]; exact e
/-- without some objects -/
def del (H : Hp) (S : List Addr) : Hp := fun b => if b ∈ S then none else H b
theorem del_in {H : Hp} {S : List Addr} {b : Addr} (h : b ∉ S) : del H S b = H b := if_neg h
theorem del_same {H : Hp} {S : List Addr} : Same (del H S) H := fun b o e => by
  by_cases h : b ∈ S
  · unfold del at e; rw [if_pos h] at e; cases e
  · rw [del_in h] at e; exact e
theorem del_some {H : Hp} {S : List Addr} {b : Addr} {o : HO} (e : del H S b = some o) : b ∉ S ∧ H b = some o := by
  by_cases h : b ∈ S
  · unfold del at e; rw [if_pos h] at e; cases e
  · rw [del_in h] at e; exact ⟨h, e⟩
theorem Fr1.del {x : Addr} {H H' : Hp} {S : List Addr} (h : Fr1 x H H') : Fr1 x (del H S) (del H' S) := fun b o n e => by
  obtain ⟨q, e⟩ := del_some e
  rw [del_in q]; exact h b o n e
theorem Same.del {H H' : Hp} {S : List Addr} (h : Same H H') : Same (del H S) (del H' S) := fun b o e => by
  obtain ⟨q, e⟩ := del_some e
  rw [del_in q]; exact h b o e
section
variable (a : Ad)
def WAt (H : Hp) (z : Addr) (cs : List Int) : Prop := ∃ dx t, H z = some (.ins a.c_Weather dx [("_changes", .ref t)]) ∧ H t = some (.tup (cs.map V.int))
def HAt (H : Hp) (z : Addr) (g lo hi : Int) : Prop := ∃ dx, H z = some (.ins a.c_Heater dx [("_gain", .int g), ("_low", .int lo), ("_high", .int hi)])
def sumsV (cs : List Int) (gg : Int) : List V := (List.range cs.length).map fun r => V.int (Th.pre cs gg r)
def DAt (H : Hp) (z : Addr) (cs : List Int) (gg : Int) : Prop := (CH cs ∧ 0 ≤ gg ∧ gg ≤ 200) ∧ ∃ dx l, H z = some (.ins a.c_Drift dx [("round_ticks", .int cs.length), ("round_sum", .int (Th.rsum cs gg)), ("_sums", .ref l)]) ∧ H l = some (.lst (sumsV cs gg))
def DDs (H : Hp) (t : Addr) (cs : List Int) (g : Int) : Prop := ∃ d0 d1, H t = some (.tup [.ref d0, .ref d1]) ∧ DAt a H d0 cs 0 ∧ DAt a H d1 cs g
def SAt (H : Hp) (z : Addr) (cs : List Int) (g : Int) (on : Bool) (b : Nat) (base : Int) : Prop := ∃ dx td d, H z = some (.ins a.c_Stretch dx [("on", .bl on), ("begin", .int b), ("_drifts", .ref td), ("_drift", .ref d), ("_base", .int base)]) ∧ DDs a H td cs g ∧ DAt a H d cs (Th.gon g on)
def bkV : Option Nat → V
  | none => .non
  | some k => .int k
def TAt (H : Hp) (z : Addr) (bs : List Nat) (back : Option Nat) : Prop := ∃ dx lb, H z = some (.ins a.c_Timeline dx [("back", bkV back), ("last", .int ((bs.length : Int) - 1)), ("_begins", .ref lb)]) ∧ H lb = some (.lst (bs.map fun (b : Nat) => V.int (b : Int)))
/-- the heating of ticks that count 1 each -/
def YAt (H : Hp) (z : Addr) (p : Th.Par) (bs : List Nat) (back : Option Nat) : Prop := ∃ dx am tl ls, H z = some (.ins a.c_HeatingSum dx [("_on", .bl (Th.onn p 0)), ("_amounts", .ref am), ("_timeline", .ref tl), ("_sums", .ref ls)]) ∧ H am = some (.tup [.int 1]) ∧ TAt a H tl bs back ∧ H ls = some (.lst (bs.map fun b => V.int (Th.Hc p b)))
def CAt (H : Hp) (z : Addr) (p : Th.Par) (bs : List Nat) (back : Option Nat) : Prop := ∃ (dx ls tl hs : Addr) (qs : List Addr), H z = some (.ins a.c_Course dx [("_low", .int p.lo), ("_high", .int p.hi), ("_stretches", .ref ls), ("_timeline", .ref tl), ("_heating", .ref hs)]) ∧
  H ls = some (.lst (qs.map V.ref)) ∧ qs.length = bs.length ∧ (∀ (i : Nat) (q : Addr) (b : Nat), qs[i]? = some q → bs[i]? = some b → SAt a H q p.ch p.g (Th.onn p b) b (Th.baB p b)) ∧ TAt a H tl bs back ∧ YAt a H hs p bs back
end
section
variable {a : Ad} {H H' : Hp} {z : Addr}
theorem WAt.same {cs : List Int} (h : WAt a H z cs) (s : Same H H') : WAt a H' z cs := let ⟨dx, t, h1, h2⟩ := h; ⟨dx, t, s _ _ h1, s _ _ h2⟩
theorem HAt.same {g lo hi : Int} (h : HAt a H z g lo hi) (s : Same H H') : HAt a H' z g lo hi := let ⟨dx, h1⟩ := h; ⟨dx, s _ _ h1⟩
theorem DAt.same {cs : List Int} {g : Int} (h : DAt a H z cs g) (s : Same H H') : DAt a H' z cs g := let ⟨b, dx, t, h1, h2⟩ := h; ⟨b, dx, t, s _ _ h1, s _ _ h2⟩
theorem DDs.same {cs : List Int} {g : Int} (h : DDs a H z cs g) (s : Same H H') : DDs a H' z cs g := let ⟨d0, d1, h1, h2, h3⟩ := h; ⟨d0, d1, s _ _ h1, h2.same s, h3.same s⟩
theorem SAt.same {cs : List Int} {g base : Int} {on : Bool} {b : Nat} (h : SAt a H z cs g on b base) (s : Same H H') : SAt a H' z cs g on b base := let ⟨dx, td, d, h1, h2, h3⟩ := h; ⟨dx, td, d, s _ _ h1, h2.same s, h3.same s⟩
theorem TAt.same {bs : List Nat} {back : Option Nat} (h : TAt a H z bs back) (s : Same H H') : TAt a H' z bs back := let ⟨dx, lb, h1, h2⟩ := h; ⟨dx, lb, s _ _ h1, s _ _ h2⟩
theorem YAt.same {p : Th.Par} {bs : List Nat} {back : Option Nat} (h : YAt a H z p bs back) (s : Same H H') : YAt a H' z p bs back := let ⟨dx, am, tl, ls, h1, h2, h3, h4⟩ := h; ⟨dx, am, tl, ls, s _ _ h1, s _ _ h2, h3.same s, s _ _ h4⟩
theorem CAt.same {p : Th.Par} {bs : List Nat} {back : Option Nat} (h : CAt a H z p bs back) (s : Same H H') : CAt a H' z p bs back :=
  let ⟨dx, ls, tl, hs, qs, h1, h2, h3, h4, h5, h6⟩ := h; ⟨dx, ls, tl, hs, qs, s _ _ h1, s _ _ h2, h3, fun i q b e1 e2 => (h4 i q b e1 e2).same s, h5.same s, h6.same s⟩
end
/-! ### promises -/
def spGain : Sp := fun vs H Q _ => ∃ g : Int, vs = [.int g] ∧ 1 ≤ g ∧ g ≤ 200 ∧ Q .non H
def spNum : Sp := fun vs H Q _ => ∃ n l u : Int, vs = [.int n, .int l, .int u] ∧ l ≤ n ∧ n ≤ u ∧ Q .non H
section
variable (a : Ad)
/-- the first value that is out of range or too many; none without one -/
def spFi : Sp := fun vs H Q _ => ∃ (t : Addr) (cs : List Int) (lo hi most : Int), vs = [.ref t, .int lo, .int hi, .int most] ∧ H t = some (.tup (cs.map V.int)) ∧
  (∀ H', Same H H' → cs ≠ [] → (∀ (i : Nat) (c : Int), cs[i]? = some c → (i : Int) < most ∧ lo ≤ c ∧ c ≤ hi) → Q .non H') ∧ (∀ H' (i : Nat) (c : Int), Same H H' → cs[i]? = some c → ¬ ((i : Int) < most ∧ lo ≤ c ∧ c ≤ hi) → (∀ (j : Nat) (d : Int), j < i → cs[j]? = some d → (j : Int) < most ∧ lo ≤ d ∧ d ≤ hi) → Q (.int i) H') ∧ (∀ H', Same H H' → cs = [] → Q (.int 0) H')
def spCb : Sp := fun vs H Q _ => ∃ lo hi : Int, vs = [.int lo, .int hi] ∧ Q (.bl (decide (-1000000000000 ≤ lo ∧ lo ≤ hi ∧ hi ≤ 1000000000000))) H
/-- Weather's __init__ with the tuple of its changes -/
def spWi : Sp := fun vs H Q _ => ∃ (x dx p : Addr) (cs : List Int), vs = [.ref x, .ref p] ∧ H x = some (.ins a.c_Weather dx []) ∧ H p = some (.tup (cs.map V.int)) ∧ CH cs ∧ ∀ H', Fr1 x H H' → WAt a H' x cs → Q .non H'
def spWs : Sp := fun vs H Q E => ∃ ws rest, vs = ws ++ rest ∧ ws.length = ["self"].length ∧ rest.length ≤ sizeLine ∧ ∀ p, H p = Option.none → spWi a (ws ++ [V.ref p]) (upd H p (.tup rest)) Q E
def spWeather : Sp := fun vs H Q _ => ∃ (t : Addr) (cs : List Int), vs = [.ref t] ∧ H t = some (.tup (cs.map V.int)) ∧ CH cs ∧ cs.length ≤ 6 ∧ ∀ z H', Same H H' → WAt a H' z cs → Q (.ref z) H'
def spHi : Sp := fun vs H Q _ => ∃ (x dx : Addr) (g lo hi : Int), vs = [.ref x, .int g, .int lo, .int hi] ∧ H x = some (.ins a.c_Heater dx []) ∧ 1 ≤ g ∧ g ≤ 200 ∧ lo ≤ hi ∧ -1000000000000 ≤ lo ∧ hi ≤ 1000000000000 ∧ ∀ H', Fr1 x H H' → HAt a H' x g lo hi → Q .non H'
def spDi : Sp := fun vs H Q _ => ∃ (x dx t : Addr) (cs : List Int) (gg : Int), vs = [.ref x, .ref t, .int gg] ∧ H x = some (.ins a.c_Drift dx []) ∧ H t = some (.tup (cs.map V.int)) ∧ CH cs ∧ 0 ≤ gg ∧ gg ≤ 200 ∧ ∀ H', Fr1 x H H' → DAt a H' x cs gg → Q .non H'
def spSum : Sp := fun vs H Q _ => ∃ (x : Addr) (t : Nat) (cs : List Int) (gg : Int), vs = [.ref x, .int t] ∧ DAt a H x cs gg ∧ ∀ H', Same H H' → Q (.int (Th.sumTo cs gg t)) H'
def spBoth : Sp := fun vs H Q _ => ∃ (t : Addr) (cs : List Int) (g : Int), vs = [.ref t, .int g] ∧ H t = some (.tup (cs.map V.int)) ∧ CH cs ∧ 1 ≤ g ∧ g ≤ 200 ∧ ∀ z H', Same H H' → DDs a H' z cs g → Q (.ref z) H'
def spSi : Sp := fun vs H Q _ => ∃ (S : List Addr) (x dx td : Addr) (cs : List Int) (g d : Int) (on : Bool) (b : Nat), vs = [.ref x, .ref td, .bl on, .int b, .int d] ∧ H x = some (.ins a.c_Stretch dx []) ∧ x ∉ S ∧ DDs a (del H S) td cs g ∧ ∀ H', Fr1 x H H' → SAt a (del H' S) x cs g on b (d - Th.sumTo cs (Th.gon g on) b) → Q .non H'
def spDeg : Sp := fun vs H Q _ => ∃ (x : Addr) (t b : Nat) (cs : List Int) (g base : Int) (on : Bool), vs = [.ref x, .int t] ∧ SAt a H x cs g on b base ∧ ∀ H', Same H H' → Q (.int (Th.Dg cs (Th.gon g on) base t)) H'
def spState : Sp := fun vs H Q _ => ∃ (x : Addr) (b : Nat) (cs : List Int) (g base : Int) (on : Bool), vs = [.ref x] ∧ SAt a H x cs g on b base ∧ ∀ z H', Same H H' → H z = none → H' z = some (.tup [.int (((b % cs.length : Nat)) : Int), .int (Th.Dg cs (Th.gon g on) base b), .bl on]) → Q (.ref z) H'
def spSwitched : Sp := fun vs H Q _ => ∃ (S : List Addr) (x : Addr) (e b : Nat) (cs : List Int) (g base : Int) (on : Bool), vs = [.ref x, .int e] ∧ (∀ s ∈ S, ∃ o, H s = some o) ∧ SAt a (del H S) x cs g on b base ∧ ∀ z H', Same H H' → H z = none → SAt a (del H' S) z cs g (!on) e (Th.Dg cs (Th.gon g on) base e - Th.sumTo cs (Th.gon g (!on)) e) → Q (.ref z) H'
def spLevel : Sp := fun vs H Q _ => ∃ (x : Addr) (b : Nat) (cs : List Int) (g base : Int) (on : Bool), vs = [.ref x] ∧ SAt a H x cs g on b base ∧ Q (if Th.rsum cs (Th.gon g on) = 0 then .int cs.length else .non) H
def optV : Option Nat → V
  | none => .non
  | some k => .int k
def spFb : Sp := fun vs H Q _ => ∃ (x : Addr) (b : Nat) (cs : List Int) (g base bound sgn : Int) (on : Bool), vs = [.ref x, .int bound, .int sgn] ∧ SAt a H x cs g on b base ∧ b ≤ 1000000000000000000 ∧ (sgn = 1 ∨ sgn = -1) ∧
  ∀ r H', Same H H' → Th.FB cs (Th.gon g on) base b sgn bound r → Q (optV r) H'
def spHst : Sp := fun vs H Q _ => ∃ (d lo hi : Int) (b : Bool), vs = [.int d, .int lo, .int hi, .bl b] ∧ Q (.bl (Th.hst d lo hi b)) H
def spEnd : Sp := fun vs H Q _ => ∃ (c x dx : Addr) (fs : List (Str × V)) (p : Th.Par) (b : Nat), vs = [.ref c, .ref x] ∧ H c = some (.ins a.c_Course dx fs) ∧ fs.lookup ("_low" : Str) = some (.int p.lo) ∧ fs.lookup ("_high" : Str) = some (.int p.hi) ∧ fs.lookup ("first_beyond" : Str) = none ∧ SAt a H x p.ch p.g (Th.onn p b) b (Th.baB p b) ∧ b ≤ 1000000000000000000 ∧
  ∀ r H', Same H H' → Th.FB p.ch (Th.ggB p b) (Th.baB p b) b (Th.sgB p b) (Th.bdB p b) r → Q (optV r) H'
end
end W6

namespace W6
open PySem PySem.Spec PyProof.Rows L2
theorem ix_of {n : Nat} {z : Int} (h0 : 0 ≤ z) (h1 : z < n) : ixN n z = some z.toNat := by
  unfold ixN
  rw [if_pos h0, if_pos h1]
theorem at_int {xs : List V} {z : Int} {v : V} (h0 : 0 ≤ z) (h : xs[z.toNat]? = some v) : atI xs z = some v := by
  unfold atI
  have hl := (List.getElem?_eq_some_iff.mp h).1
  rw [ix_of h0 (by omega)]
  exact h
theorem map_at {cs : List Int} {j : Nat} (h : j < cs.length) : (cs.map V.int)[j]? = some (.int (cs.getD j 0)) := by
  simp [h]
theorem pick {cs : List Int} {i : Int} (i0 : 0 ≤ i) : ∃ c : Int, atI (cs.map V.int ++ [V.int 0]) (i % (if (((cs.map V.int).length : Nat) : Int) > 1 then (((cs.map V.int).length : Nat) : Int) else 1)) = some (.int c) ∧ (1000000000000000000 ≤ c → 0 < cs.length) := by
  rw [List.length_map]
  cases cs with
  | nil =>
    refine ⟨0, ?_, fun h => by omega⟩
    simp only [List.length_nil, Int.natCast_zero]
    rw [if_neg (by omega), show i % 1 = 0 by omega]
    rfl
  | cons e r =>
    generalize hn : (if (((e :: r).length : Nat) : Int) > 1 then (((e :: r).length : Nat) : Int) else 1) = n
    have hn2 : n = ((e :: r).length : Nat) := by
      subst hn
      simp only [List.length_cons]
      split <;> omega
    have npos : 0 < n := by rw [hn2]; simp only [List.length_cons]; omega
    have h0 : 0 ≤ i % n := Int.emod_nonneg _ (by omega)
    have h1 : i % n < n := Int.emod_lt_of_pos _ npos
    refine ⟨(e :: r).getD (i % n).toNat 0, at_int h0 ?_, fun _ => by simp⟩
    have hl : (i % n).toNat < (e :: r).length := by omega
    rw [List.getElem?_append_left (by rw [List.length_map]; exact hl)]
    exact map_at hl
section
variable {P : Program} {w : World} {K : PySem.W.Frag} {mg : Str → Option Value} {base : Heap} {a : Ad}
end
end W6

namespace W6
open PySem PySem.Spec PyProof.Rows L2
section
variable {P : Program} {w : World} {K : PySem.W.Frag} {mg : Str → Option Value} {base : Heap} {a : Ad}
theorem three {r : Int} (h0 : 0 ≤ r) (h1 : r < 3) (A B C : V) : ∃ v, atI [A, B, C] r = some v ∧ (v = A ∨ v = B ∨ v = C) := by
  rcases (show r = 0 ∨ r = 1 ∨ r = 2 by omega) with rfl | rfl | rfl
  · exact ⟨A, rfl, .inl rfl⟩
  · exact ⟨B, rfl, .inr (.inl rfl)⟩
  · exact ⟨C, rfl, .inr (.inr rfl)⟩
end
end W6

namespace W6
open PySem PySem.Spec PyProof.Rows L2
section
variable {P : Program} {w : World} {K : PySem.W.Frag} {mg : Str → Option Value} {base : Heap} {a : Ad}
theorem two {r : Int} (h0 : 0 ≤ r) (h1 : r < 2) (A B : V) : ∃ v, atI [A, B] r = some v ∧ (v = A ∨ v = B) := by
  rcases (show r = 0 ∨ r = 1 by omega) with rfl | rfl
  · exact ⟨A, rfl, .inl rfl⟩
  · exact ⟨B, rfl, .inr rfl⟩
theorem five {r : Int} (h0 : 0 ≤ r) (h1 : r < 5) (A B C D F : V) : ∃ v, atI [A, B, C, D, F] r = some v ∧ (v = A ∨ v = B ∨ v = C ∨ v = D ∨ v = F) := by
  rcases (show r = 0 ∨ r = 1 ∨ r = 2 ∨ r = 3 ∨ r = 4 by omega) with rfl | rfl | rfl | rfl | rfl
  · exact ⟨A, rfl, .inl rfl⟩
  · exact ⟨B, rfl, .inr (.inl rfl)⟩
  · exact ⟨C, rfl, .inr (.inr (.inl rfl))⟩
  · exact ⟨D, rfl, .inr (.inr (.inr (.inl rfl)))⟩
  · exact ⟨F, rfl, .inr (.inr (.inr (.inr rfl)))⟩
end
end W6

namespace W6
open PySem PySem.Spec PyProof.Rows L2 Ru StX
section
variable {P : Program} {w : World} {K : PySem.W.Frag} {mg : Str → Option Value} {base : Heap} {a : Ad}
theorem ok_check_number (T : Txt K mg a) : FnOk P w K mg base CX0 1 a.f_check_number a.d_check_number ["number", "least", "greatest"] spNum := by
  refine T.F_check_number.ok sc_check_number (fun vs H Q E h => ?_) (fun cdv A outer s H vs Q E hr h => ?_)
  · obtain ⟨n, l, u, rfl, _⟩ := h
    rfl
  · obtain ⟨n, l, u, rfl, g1, g2, k⟩ := h
    refine ⟨_, (pss_one (ps_if (pt_not (pt_chain op_le op_le (pv 1) (pv 0) (pv 2))) (pss_one (ps_never)) pss_nil)), ?_⟩
    refine ⟨_, rfl, _, rfl, _, _, rfl, rfl, _, rfl, ?_⟩
    rw [if_pos (decide_eq_true g1)]
    refine ⟨_, rfl, _, _, rfl, rfl, _, rfl, ?_⟩
    show (if (!decide (n ≤ u)) = true then _ else _)
    rw [decide_eq_true g2]
    exact iteF k
theorem ok_can_be_thresholds (T : Txt K mg a) : FnOk P w K mg base CX0 1 a.f_can_be_thresholds a.d_can_be_thresholds ["low", "high"] spCb := by
  refine T.F_can_be_thresholds.ok sc_can_be_thresholds (fun vs H Q E h => ?_) (fun cdv A outer s H vs Q E hr h => ?_)
  · obtain ⟨lo, hi, rfl, _⟩ := h
    rfl
  · obtain ⟨lo, hi, rfl, k⟩ := h
    refine ⟨_, (pss_one (ps_ret (pe_ch3 op_le op_le op_le (pe_un un_neg (pe_glob (v := .int 1000000000000) rfl T.mg_MOST_DEGREES.choose_spec ⟨_, rfl⟩)) (pv 0) (pv 1) (pe_glob (v := .int 1000000000000) rfl T.mg_MOST_DEGREES.choose_spec ⟨_, rfl⟩)))), ?_⟩
    refine ⟨_, rfl, _, rfl, _, _, rfl, rfl, _, rfl, ?_⟩
    by_cases l1 : -1000000000000 ≤ lo
    · refine ifT (dT l1) ⟨_, rfl, _, _, rfl, rfl, _, rfl, ?_⟩
      by_cases l2 : lo ≤ hi
      · refine ifT (dT l2) ⟨_, _, rfl, rfl, ?_⟩
        have e : decide (hi ≤ 1000000000000) = decide (-1000000000000 ≤ lo ∧ lo ≤ hi ∧ hi ≤ 1000000000000) := by
          by_cases l3 : hi ≤ 1000000000000
          · rw [decide_eq_true l3, decide_eq_true ⟨l1, l2, l3⟩]
          · rw [decide_eq_false l3, decide_eq_false (fun q => l3 q.2.2)]
        rw [← e] at k
        exact k
      · refine ifF (dF l2) ?_
        rw [decide_eq_false (fun q => l2 q.2.1)] at k
        exact k
    · refine ifF (dF l1) ?_
      rw [decide_eq_false (fun q => l1 q.1)] at k
      exact k
theorem ok_first_invalid (T : Txt K mg a) : FnOk P w K mg base CX0 1 a.f_first_invalid a.d_first_invalid ["values", "least", "greatest", "most"] spFi := by
  refine T.F_first_invalid.ok sc_first_invalid (fun vs H Q E h => ?_) (fun cdv A outer s H vs Q E hr h => ?_)
  · obtain ⟨t, cs, lo, hi, most, rfl, _⟩ := h
    rfl
  · obtain ⟨t, cs, lo, hi, most, rfl, ht, k1, k2, k3⟩ := h
    refine ⟨_, (pss_cons (ps_for PassesOwn.never rfl (pi_enumT (by rfl) T.z_enumerate (pa_cons (pv 0) pa_nil)) (pg_tup rfl (pgs_cons (pg_name (i := 4) sc_first_invalid.nd rfl (Or.inl rfl)) (pgs_cons (pg_name (i := 5) sc_first_invalid.nd rfl (Or.inl rfl)) pgs_nil)))
        (pss_one (ps_if (PW.pt (pw_or (pt_cmpR op_ge (pv 4) (pv 3) (nomark _)) (pw_or1 (pt_not (pt_chain op_le op_le (pv 1) (pv 5) (pv 2)))))) (pss_one (ps_ret (pv 4))) pss_nil)))
      (pss_one (ps_ret (pe_ifExp (pt_cmpR op_eq (pe_callB call_len_seq (by rfl) T.z_len PySem.boot_len (pa_cons (pv 0) pa_nil)) pe_int (nomark _)) pe_int pe_non)))), ?_⟩
    refine ⟨_, rfl, t, cs.map V.int, rfl, SqT.of ht, for_enumT (fun i σ H' => (∃ u v : Option V, σ = [some (.ref t), some (.int lo), some (.int hi), some (.int most), u, v] ∧ Same H H') ∧ ∀ (j : Nat) (d : Int), j < i → cs[j]? = some d → (j : Int) < most ∧ lo ≤ d ∧ d ≤ hi) ⟨⟨none, none, rfl, Same.refl _⟩, fun j d hj => absurd hj (Nat.not_lt_zero _)⟩ (fun i σ H' ⟨⟨_, _, _, s⟩, _⟩ => SqT.of (s _ _ ht)) ?_ ?_⟩
    · rintro i v σ H' tt hi' ⟨⟨u1, u2, rfl, sm⟩, ok⟩ htt
      obtain ⟨c, hc, rfl⟩ : ∃ c, cs[i]? = some c ∧ v = V.int c := by
        rw [List.getElem?_map] at hi'
        cases e : cs[i]? with
        | none => rw [e] at hi'; cases hi'
        | some c => rw [e] at hi'; exact ⟨c, rfl, (Option.some.inj hi').symm⟩
      have sm2 : Same H (upd H' tt (.tup [.int (i : Nat), .int c])) := sm.trans (same_upd htt)
      refine ⟨tt, _, rfl, SqT.of upd_same, rfl, _, _, rfl, _, _, rfl, rfl, ?_⟩
      refine ⟨_, rfl, _, rfl, _, _, rfl, rfl, _, rfl, ?_⟩
      by_cases c1 : most ≤ (i : Int)
      · refine ifT (dT c1) ⟨_, rfl, ?_⟩
        exact k2 _ i c sm2 hc (fun q => by omega) ok
      · refine ifF (dF c1) ⟨_, rfl, _, rfl, _, _, rfl, rfl, _, rfl, ?_⟩
        by_cases c2 : lo ≤ c
        · refine ifT (dT c2) ⟨_, rfl, _, _, rfl, rfl, _, rfl, ?_⟩
          by_cases c3 : c ≤ hi
          · refine ifF (nF c3) ?_
            refine ⟨⟨_, _, rfl, sm2⟩, fun j d hj e => ?_⟩
            by_cases q : j < i
            · exact ok j d q e
            · obtain rfl : j = i := by omega
              rw [hc] at e; cases e
              exact ⟨by omega, c2, c3⟩
          · refine ifT (nT c3) ⟨_, rfl, ?_⟩
            exact k2 _ i c sm2 hc (fun q => c3 q.2.2) ok
        · refine ifF (dF c2) ⟨_, rfl, ?_⟩
          refine ifT rfl ⟨_, rfl, ?_⟩
          exact k2 _ i c sm2 hc (fun q => c2 q.2.1) ok
    · rintro σ H' ⟨⟨u1, u2, rfl, sm⟩, ok⟩
      refine ⟨_, rfl, t, _, rfl, .inr (SqT.of (sm _ _ ht)), rfl, _, rfl, ?_⟩
      by_cases e0 : cs = []
      · subst e0
        exact ifT rfl (k3 _ sm rfl)
      · refine ifF (dF (by intro q; injection q with q; rw [List.length_map] at q; exact e0 (List.eq_nil_of_length_eq_zero (by omega)))) ?_
        refine k1 _ sm e0 fun i c hc => ok i c ?_ hc
        rw [List.length_map]
        exact (List.getElem?_eq_some_iff.mp hc).1
/-- Weather(..) -/
theorem ok_Weather_init (T : Txt K mg a) : FnR P w K mg base CX0 2 a.f_Weather_init (spWs a) := by
  have G_first_invalid : FnOk P w K mg base CX0 1 a.f_first_invalid a.d_first_invalid ["values", "least", "greatest", "most"] spFi := ok_first_invalid T
  obtain ⟨oc, od, kV, doc, pm, an, cdv, ct, osl, e, lk, hcd⟩ := T.F_Weather_init.ex
  rw [e] at lk
  refine fn_star (ps := ["self"]) (pv := "changes") (sp := spWi a) lk hcd sc_Weather_init cxUp_none (bind_star1 (B := fun us => bindArgs (PySem.W.fnOf "__init__" "Weather.__init__" (defArgs s_Weather_init) (defBody s_Weather_init) (defScope s_Weather_init) .none kV doc pm an cdv ct) ⟨us, []⟩) (fun _ => rfl) (fun _ _ _ => rfl)) (fun A outer s H vs Q E hr h => ?_)
  obtain ⟨x, dx, p, cs, rfl, hx, hp, ⟨c1, c2, c3⟩, k⟩ := h
  obtain ⟨tt, cvT⟩ := T.cv_Weather_MAX_TICKS
  obtain ⟨tc, cvC⟩ := T.cv_Weather_MAX_CHANGE
  have npx : p ≠ x := ne_of hp hx (fun z => nomatch z)
  refine ⟨_, PSs.nox ((pss_cons (ps_set (i := 2) sc_Weather_init.nd rfl (Or.inl rfl) (pe_call G_first_invalid (hr.mono (by decide)) (by rfl) T.mg_first_invalid T.F_first_invalid.kp (b_first_invalid T) .nil pass0 (pa_cons (pv 1) (pa_cons (pe_un un_neg (pe_con (pv 0) rfl)) (pa_cons (pe_con (pv 0) rfl) (pa_cons (pe_con (pv 0) rfl) pa_nil))))))
      (pss_cons (ps_if (pt_cmpR op_notN (pv 2) pe_non (nomark _)) (pss_one (ps_never)) pss_nil)
      (pss_one (ps_fld (pv 0) (pv 1) rfl))))), ?_⟩
  refine ⟨_, rfl, _, rfl, x, _, dx, _, _, _, rfl, hx, T.cl_Weather, cvC, rfl, _, rfl, _, rfl, x, _, dx, _, _, _, rfl, hx, T.cl_Weather, cvC, rfl, _, rfl, x, _, dx, _, _, _, rfl, hx, T.cl_Weather, cvT, rfl, p, cs, _, _, _, rfl, hp, fun H' sm _ _ => ?_, fun H' i c sm hc bad _ => ?_, fun H' _ e0 => ?_⟩
  · refine ⟨_, rfl, rfl, _, rfl, ?_⟩
    refine ifF rfl ?_
    refine ⟨_, rfl, _, rfl, x, _, dx, _, rfl, sm _ _ hx, T.cl_Weather, T.na_Weather__changes, by show 0 < 1000; decide, ?_⟩
    exact k _ ((Fr1.of sm).trans Fr1.upd) ⟨dx, p, by rw [upd_same]; rfl, by rw [upd_ne npx]; exact sm _ _ hp⟩
  · have := c3 c (List.mem_of_getElem? hc)
    have := (List.getElem?_eq_some_iff.mp hc).1
    exact absurd ⟨by omega, by omega, by omega⟩ bad
  · rw [e0] at c1
    exact absurd c1 (by decide)
/-- what the making of a weather asks -/
theorem weather_made {H : Hp} {Q : VK} {E : XK} {cs : List Int} (c : CH cs) (k : ∀ z H', Same H H' → WAt a H' z cs → Q (.ref z) H') : ∀ x dx, H x = none → H dx = none → dx ≠ x → spWs a (V.ref x :: cs.map V.int) (upd (upd H dx (.own x)) x (.ins a.c_Weather dx [])) (fun v H2 => v = .non ∧ Q (.ref x) H2) E := fun x dx nx nd ne =>
  ⟨[.ref x], cs.map V.int, rfl, rfl, by rw [List.length_map]; exact Nat.le_of_lt (small1000 (by have := c.2.1; omega)), fun p hp => by
    have npx : x ≠ p := ne_of_none upd_same hp
    have s1 := same_upd (o := .tup (cs.map V.int)) hp
    exact ⟨x, dx, p, cs, rfl, s1 _ _ upd_same, upd_same, c, fun H' fr wt => ⟨rfl, k x H' (Fr1.made nx nd ((Fr1.of s1).trans fr)) wt⟩⟩⟩
end
end W6

namespace W6
open PySem PySem.Spec PyProof.Rows L2
/-- all but one object as they were -/
def Kp (x : Addr) (H H' : Hp) : Prop := ∀ b o, b ≠ x → H b = some o → H' b = some o
theorem Kp.of {x : Addr} {H H' : Hp} (s : Same H H') : Kp x H H' := fun b o _ e => s b o e
theorem Kp.refl (x : Addr) (H : Hp) : Kp x H H := fun _ _ _ e => e
theorem Kp.trans {x : Addr} {H H1 H2 : Hp} (a : Kp x H H1) (b : Kp x H1 H2) : Kp x H H2 := fun c o n e => b c o n (a c o n e)
theorem Kp.upd {x : Addr} {H : Hp} {o : HO} : Kp x H (L2.upd H x o) := fun b u n e => by rw [upd_ne n]; exact e
/-- the state of the draws: the script, how many cells are drawn, the mixed number, the rest of a great cell -/
def LS (K : PySem.W.Frag) (H : Hp) (x y : Addr) : Prop := ∃ (ns : List Int) (i m c : Int), H x = some (.lst [.ref y, .int i, .int m, .int c]) ∧ SqL K H y (ns.map V.int) ∧ 0 ≤ i ∧ 0 ≤ m ∧ m < 2147483647 ∧ 0 ≤ c ∧ ns.length ≤ 63
theorem ref_ints {y : Addr} {l : List V} {ns : List Int} (h : V.ref y :: l = ns.map V.int) : False := by
  cases ns with
  | nil => cases h
  | cons n r => simp at h
theorem sqOff {K : PySem.W.Frag} {H : Hp} {x y : Addr} {l : List V} {ns : List Int} {o : HO} (hx : H x = some (.lst (.ref y :: l))) (h : SqL K H y (ns.map V.int)) : SqL K (upd H x o) y (ns.map V.int) := by
  rcases h with (h | ⟨ob, h⟩) | h
  · exact .inl (.inl (by rw [upd_ne (fun e => by rw [e, hx] at h; injection h with h; injection h with h; exact ref_ints h)]; exact h))
  · exact .inl (.inr ⟨ob, by rw [upd_ne (fun e => by rw [e, hx] at h; injection h with h; cases h)]; exact h⟩)
  · exact .inr h
theorem LS.same {K : PySem.W.Frag} {H H' : Hp} {x y : Addr} (h : LS K H x y) (s : Same H H') : LS K H' x y := by
  obtain ⟨ns, i, m, c, h1, h2, r⟩ := h
  exact ⟨ns, i, m, c, s _ _ h1, s.seq h2, r⟩
theorem LS.off {K : PySem.W.Frag} {H : Hp} {x y p : Addr} (h : LS K H x y) (hp : H p = none) : p ≠ x := by
  obtain ⟨ns, i, m, c, h1, h2, r⟩ := h
  exact (ne_of_none h1 hp).symm
/-- what is no list is not the state -/
theorem LS.ne {K : PySem.W.Frag} {H : Hp} {x y b : Addr} {o : HO} (h : LS K H x y) (e : H b = some o) (n : ∀ xs, o ≠ .lst xs) : b ≠ x := by
  obtain ⟨ns, i, m, c, h1, h2, r⟩ := h
  exact ne_of e h1 (n _)
theorem Kp.get {K : PySem.W.Frag} {H H' : Hp} {x y b : Addr} {o : HO} (k : Kp x H H') (h : LS K H x y) (e : H b = some o) (n : ∀ xs, o ≠ .lst xs) : H' b = some o := k _ _ (h.ne e n) e
/-- an update at D leaves the script alone -/
def NY (K : PySem.W.Frag) (y D : Addr) : Prop := y ≠ D ∨ ∃ ns : List Int, ns.length ≤ 63 ∧ ∀ H, SqL K H y (ns.map V.int)
theorem LS.fresh {K : PySem.W.Frag} {H : Hp} {x y D : Addr} (h : LS K H x y) (hD : H D = none) : NY K y D := by
  obtain ⟨ns, i, m, c, h1, h2, _, _, _, _, nl⟩ := h
  rcases h2 with (h | ⟨ob, h⟩) | h
  · exact .inl (ne_of_none h hD)
  · exact .inl (ne_of_none h hD)
  · exact .inr ⟨ns, nl, fun _ => .inr h⟩
theorem LS.updD {K : PySem.W.Frag} {H : Hp} {x y D : Addr} {o : HO} (h : LS K H x y) (n1 : D ≠ x) (n2 : NY K y D) : LS K (upd H D o) x y := by
  obtain ⟨ns, i, m, c, h1, h2, i0, m0, m1, c0, nl⟩ := h
  have h1' : upd H D o x = some (.lst [.ref y, .int i, .int m, .int c]) := by rw [upd_ne (Ne.symm n1)]; exact h1
  rcases n2 with n2 | ⟨ms, ml, hm⟩
  · refine ⟨ns, i, m, c, h1', ?_, i0, m0, m1, c0, nl⟩
    rcases h2 with (h | ⟨ob, h⟩) | h
    · exact .inl (.inl (by rw [upd_ne n2]; exact h))
    · exact .inl (.inr ⟨ob, by rw [upd_ne n2]; exact h⟩)
    · exact .inr h
  · exact ⟨ms, i, m, c, h1', hm _, i0, m0, m1, c0, ml⟩
def spStart (K : PySem.W.Frag) : Sp := fun vs H Q _ => ∃ (y : Addr) (ns : List Int), vs = [.ref y] ∧ SqL K H y (ns.map V.int) ∧ ns.length ≤ 63 ∧ ∀ x H', LS K H' x y → Same H H' → H x = none → Q (.ref x) H'
def spDrawn (K : PySem.W.Frag) : Sp := fun vs H Q _ => ∃ (x y : Addr) (lim : Int), vs = [.ref x, .int lim] ∧ LS K H x y ∧ 0 < lim ∧ lim < 18446744073709551616 ∧ ∀ r H', 0 ≤ r → r < lim → LS K H' x y → Kp x H H' → Q (.int r) H'
section
variable {P : Program} {w : World} {K : PySem.W.Frag} {mg : Str → Option Value} {base : Heap} {a : Ad}
theorem ok__law_start (T : Txt K mg a) : FnOk P w K mg base CX0 1 a.f__law_start a.d__law_start ["_law_script"] (spStart K) := by
  refine T.F__law_start.ok sc__law_start (fun vs H Q E h => ?_) (fun cdv A outer s H vs Q E hr h => ?_)
  · obtain ⟨c, ns, rfl, _⟩ := h
    rfl
  · obtain ⟨c, ns, rfl, hS, hl, k⟩ := h
    refine ⟨_, (pss_cons (ps_set (i := 1) sc__law_start.nd rfl (Or.inl rfl) pe_int)
      (pss_cons (ps_for PassesOwn.never rfl (pi_list (pv 0)) (pg_name (i := 2) sc__law_start.nd rfl (Or.inl rfl))
        (pss_one (ps_set (i := 1) sc__law_start.nd rfl (Or.inl rfl) (pe_op op_mod (pe_op op_add (pe_op op_add (pe_op op_mul (pv 1) pe_int) (pv 2)) pe_int) pe_int))))
      (pss_one (ps_ret (pe_lst (pa_cons (pv 0) (pa_cons pe_int (pa_cons (pv 1) (pa_cons pe_int pa_nil))))))))), ?_⟩
    refine ⟨_, rfl, c, rfl, ⟨_, hS⟩, for_list (K := K) (a := c) (xs := ns.map V.int) (fun i σ H' => ∃ (m : Int) (v : Option V), σ = [some (.ref c), some (.int m), v] ∧ 0 ≤ m ∧ m < 2147483647 ∧ H' = H) ⟨1, none, rfl, by decide, by decide, rfl⟩ (fun i σ H' _ ⟨_, _, _, _, _, e⟩ => e ▸ hS) ?_ ?_⟩
    · rintro i v σ H' hi ⟨m, o, rfl, m0, m1, rfl⟩
      obtain ⟨u, rfl⟩ : ∃ u, v = V.int u := by
        rw [List.getElem?_map] at hi
        cases e : ns[i]? with
        | none => rw [e] at hi; cases hi
        | some u => rw [e] at hi; exact ⟨u, (Option.some.inj hi).symm⟩
      refine ⟨_, rfl, _, _, rfl, rfl, .inr ⟨by decide, by decide⟩, _, rfl, _, _, rfl, rfl, _, _, rfl, rfl, _, _, rfl, rfl, (by show (0 : Int) < 2147483647; decide), ?_⟩
      exact ⟨_, _, rfl, Int.emod_nonneg _ (by omega), Int.emod_lt_of_pos _ (by omega), rfl⟩
    · rintro σ H' ⟨m, o, rfl, m0, m1, rfl⟩
      refine ⟨_, rfl, _, rfl, by show 4 ≤ sizeLine; decide, fun x hx => ?_⟩
      exact k x _ ⟨ns, 0, m, 0, upd_same, (same_upd hx).seq hS, by decide, m0, m1, by decide, hl⟩ (same_upd hx) hx
theorem ok__law_drawn (T : Txt K mg a) : FnOk P w K mg base CX0 1 a.f__law_drawn a.d__law_drawn ["_law_state", "_law_count"] (spDrawn K) := by
  refine T.F__law_drawn.ok sc__law_drawn (fun vs H Q E h => ?_) (fun cdv A outer s H vs Q E hr h => ?_)
  · obtain ⟨x, y, lim, rfl, _⟩ := h
    rfl
  · obtain ⟨x, y, lim, rfl, lh, l0, l1, k⟩ := h
    obtain ⟨ns, i, m, c, hx, hy, i0, m0, m1, c0, nl⟩ := id lh
    refine ⟨_, (pss_cons (ps_if (pt_cmpR op_gt (pe_ix ix_list (pv 0) pe_int (fun _ _ => rfl)) pe_int (nomark _)) (pss_cons (ps_set (i := 2) sc__law_drawn.nd rfl (Or.inl rfl) (pe_op op_mod (pe_ix ix_list (pv 0) pe_int (fun _ _ => rfl)) (pv 1)))
      (pss_cons (ps_asg (pe_op op_fdivW (pe_ix ix_list (pv 0) pe_int (fun _ _ => rfl)) (pv 1)) (pg_sub (pv 0) pe_int set_list))
      (pss_one (ps_ret (pv 2))))) pss_nil)
      (pss_cons (ps_asg (pe_op op_add (pe_ix ix_list (pv 0) pe_int (fun _ _ => rfl)) pe_int) (pg_sub (pv 0) pe_int set_list))
      (pss_cons (ps_if (pt_cmpR op_le (pe_ix ix_list (pv 0) pe_int (fun _ _ => rfl)) (pe_callB call_len_seq (by rfl) T.z_len PySem.boot_len (pa_cons (pe_ix ix_list (pv 0) pe_int (fun _ _ => rfl)) pa_nil)) (nomark _)) (pss_cons (ps_set (i := 3) sc__law_drawn.nd rfl (Or.inl rfl) (pe_ix ix_list (pe_ix ix_list (pv 0) pe_int (fun _ _ => rfl)) (pe_op op_sub (pe_ix ix_list (pv 0) pe_int (fun _ _ => rfl)) pe_int) (fun _ _ => rfl)))
      (pss_cons (ps_asg (pe_ifExp (pt_cmpR op_ge (pv 3) (pe_op op_pow pe_int pe_int) (nomark _)) (pe_op op_fdivW (pv 3) (pv 1)) pe_int) (pg_sub (pv 0) pe_int set_list))
      (pss_one (ps_ret (pe_op op_mod (pv 3) (pv 1)))))) pss_nil)
      (pss_cons (ps_asg (pe_op op_mod (pe_op op_add (pe_op op_mul (pe_ix ix_list (pv 0) pe_int (fun _ _ => rfl)) pe_int) pe_int) pe_int) (pg_sub (pv 0) pe_int set_list))
      (pss_one (ps_ret (pe_op op_mod (pe_op op_fdiv (pe_ix ix_list (pv 0) pe_int (fun _ _ => rfl)) pe_int) (pv 1)))))))), ?_⟩
    have nl' : (ns.map V.int).length = ns.length := List.length_map _
    refine ⟨_, rfl, x, _, _, _, rfl, rfl, SqL.of hx, rfl, _, _, rfl, rfl, _, rfl, ?_⟩
    have stay : ∀ {o : HO}, SqL K (upd H x o) y (ns.map V.int) := sqOff hx hy
    refine ite2 (fun big => ?_) (fun small => ?_)
    · refine ⟨_, rfl, x, _, _, _, rfl, rfl, SqL.of hx, rfl, _, rfl, _, _, rfl, rfl, l0, ?_⟩
      refine ⟨_, rfl, x, _, _, _, rfl, rfl, SqL.of hx, rfl, _, rfl, _, _, rfl, rfl, wide_div (b := 64) l0 (by omega) (by decide) (by decide), _, rfl, x, _, _, _, rfl, rfl, hx, rfl, ?_⟩
      refine ⟨_, rfl, k _ _ (Int.emod_nonneg _ (by omega)) (Int.emod_lt_of_pos _ l0) ⟨ns, i, m, c / lim, upd_same, stay, i0, m0, m1, Int.ediv_nonneg c0 (by omega), nl⟩ Kp.upd⟩
    · refine ⟨_, rfl, x, _, _, _, rfl, rfl, SqL.of hx, rfl, _, _, rfl, rfl, _, rfl, x, _, _, _, rfl, rfl, hx, rfl, ?_⟩
      have hx1 := upd_same (H := H) (a := x) (o := .lst [.ref y, .int (i + 1), .int m, .int c])
      have hy1 := stay (o := .lst [.ref y, .int (i + 1), .int m, .int c])
      have k1 : Kp x H (upd H x (.lst [.ref y, .int (i + 1), .int m, .int c])) := Kp.upd
      refine (?_ : tSeq _ _ _ _ (upd H x (.lst [.ref y, .int (i + 1), .int m, .int c])))
      generalize upd H x (.lst [.ref y, .int (i + 1), .int m, .int c]) = H1 at hx1 hy1 k1 ⊢
      refine ⟨_, rfl, x, _, _, _, rfl, rfl, SqL.of hx1, rfl, _, rfl, x, _, _, _, rfl, rfl, SqL.of hx1, rfl, y, _, rfl, .inl hy1, _, _, rfl, rfl, _, rfl, ?_⟩
      refine ite2 (fun le => ?_) (fun gt => ?_)
      · have le : i + 1 ≤ (((ns.map V.int).length : Nat) : Int) := of_decide_eq_true le
        have hi : i.toNat < ns.length := by omega
        have hat : atI (ns.map V.int) (i + 1 - 1) = some (.int (ns.getD i.toNat 0)) := by
          refine at_int (by omega) ?_
          rw [show (i + 1 - 1).toNat = i.toNat by omega]
          exact map_at hi
        generalize ns.getD i.toNat 0 = cell at hat
        refine ⟨_, rfl, x, _, _, _, rfl, rfl, SqL.of hx1, rfl, _, rfl, x, _, _, _, rfl, rfl, SqL.of hx1, rfl, _, _, rfl, rfl, y, _, _, _, rfl, rfl, hy1, hat, ?_⟩
        refine ⟨_, rfl, _, _, rfl, rfl, ⟨by decide, by decide, by decide⟩, _, _, rfl, rfl, _, rfl, ?_⟩
        have fin : ∀ c' : Int, 0 ≤ c' → ∀ r : Int, 0 ≤ r → r < lim → Q (.int r) (upd H1 x (.lst [.ref y, .int (i + 1), .int m, .int c'])) := fun c' hc' r r0 r1 => k r _ r0 r1 ⟨ns, i + 1, m, c', upd_same, sqOff hx1 hy1, by omega, m0, m1, hc', nl⟩ (k1.trans Kp.upd)
        refine ite2 (fun g => ?_) (fun g => ?_)
        · have g : (10 : Int) ^ (18 : Int).toNat ≤ cell := of_decide_eq_true g
          have p18 : (10 : Int) ^ (18 : Int).toNat = 1000000000000000000 := by decide
          refine ⟨_, rfl, _, rfl, _, _, rfl, rfl, wide_div (b := 64) l0 (by omega) (by decide) (by decide), _, rfl, x, _, _, _, rfl, rfl, hx1, rfl, ?_⟩
          exact ⟨_, rfl, _, rfl, _, _, rfl, rfl, l0, fin _ (Int.ediv_nonneg (by omega) (by omega)) _ (Int.emod_nonneg _ (by omega)) (Int.emod_lt_of_pos _ l0)⟩
        · refine ⟨_, rfl, x, _, _, _, rfl, rfl, hx1, rfl, ?_⟩
          exact ⟨_, rfl, _, rfl, _, _, rfl, rfl, l0, fin _ (by decide) _ (Int.emod_nonneg _ (by omega)) (Int.emod_lt_of_pos _ l0)⟩
      · refine ⟨_, rfl, x, _, _, _, rfl, rfl, SqL.of hx1, rfl, _, _, rfl, rfl, .inr ⟨by decide, by decide⟩, _, _, rfl, rfl, _, _, rfl, rfl, (by show (0 : Int) < 2147483647; decide), _, rfl, x, _, _, _, rfl, rfl, hx1, rfl, ?_⟩
        refine ⟨_, rfl, x, _, _, _, rfl, rfl, SqL.of upd_same, rfl, _, _, rfl, rfl, ⟨by decide, by decide⟩, _, rfl, _, _, rfl, rfl, l0, k _ _ (Int.emod_nonneg _ (by omega)) (Int.emod_lt_of_pos _ l0) ?_ (k1.trans Kp.upd)⟩
        exact ⟨_, i + 1, _, c, upd_same, sqOff hx1 hy1, by omega, Int.emod_nonneg _ (by omega), Int.emod_lt_of_pos _ (by omega), c0, nl⟩
end
end W6

namespace W6
open PySem PySem.Spec PyProof.Rows L2 Ru StX
def Fl (u v : V) : Prop := u = v ∧ ((∃ n : Int, u = .int n) ∨ (∃ b : Bool, u = .bl b) ∨ (∃ s : Str, u = .str s) ∨ u = .non)
def Sq1 (R : V → V → Hp → Prop) (H : Hp) (xs ys : List V) : Prop := xs.length = ys.length ∧ xs.length ≤ 1000000 ∧ ∀ (i : Nat) (u v : V), xs[i]? = some u → ys[i]? = some v → R u v H
def AS (R : V → V → Hp → Prop) (u v : V) (H : Hp) : Prop := Fl u v ∨ ∃ (x y : Addr) (xs ys : List V), u = .ref x ∧ v = .ref y ∧ Sq1 R H xs ys ∧ ((H x = some (.lst xs) ∧ H y = some (.lst ys)) ∨ (H x = some (.tup xs) ∧ H y = some (.tup ys)))
def R0 (u v : V) (_ : Hp) : Prop := Fl u v
def R1 : V → V → Hp → Prop := AS R0
def R2 : V → V → Hp → Prop := AS R1
theorem Sq1.same {R : V → V → Hp → Prop} (m : ∀ u v H H', R u v H → Same H H' → R u v H') {H H' : Hp} {xs ys : List V} (h : Sq1 R H xs ys) (s : Same H H') : Sq1 R H' xs ys := ⟨h.1, h.2.1, fun i u v hu hv => m _ _ _ _ (h.2.2 i u v hu hv) s⟩
theorem AS.same {R : V → V → Hp → Prop} (m : ∀ u v H H', R u v H → Same H H' → R u v H') (u v : V) (H H' : Hp) (h : AS R u v H) (s : Same H H') : AS R u v H' := by
  rcases h with h | ⟨x, y, xs, ys, e1, e2, q, h⟩
  · exact .inl h
  · refine .inr ⟨x, y, xs, ys, e1, e2, q.same m s, ?_⟩
    rcases h with ⟨h1, h2⟩ | ⟨h1, h2⟩
    · exact .inl ⟨s _ _ h1, s _ _ h2⟩
    · exact .inr ⟨s _ _ h1, s _ _ h2⟩
theorem R0.mono : ∀ u v H H', R0 u v H → Same H H' → R0 u v H' := fun _ _ _ _ h _ => h
theorem R1.mono : ∀ u v H H', R1 u v H → Same H H' → R1 u v H' := AS.same R0.mono
def spAk (R : V → V → Hp → Prop) : Sp := fun vs H Q _ => ∃ u v, vs = [u, v] ∧ R u v H ∧ ∀ H', Same H H' → Q (.bl true) H'
section
variable {P : Program} {w : World} {K : PySem.W.Frag} {mg : Str → Option Value} {base : Heap} {a : Ad}
theorem kitN' {s : String} (h1 : kitB s "tuple" = some false) (h2 : kitB s "list" = some false) : PySem.W.kitAny K (.type s) [.type "tuple", .type "list"] = some false := by
  unfold PySem.W.kitAny
  rw [kit_ty h1]
  unfold PySem.W.kitAny
  rw [kit_ty h2]
  try rfl
theorem kitTup' : PySem.W.kitAny K (.type "tuple") [.type "tuple", .type "list"] = some true := by
  unfold PySem.W.kitAny
  rw [kit_ty (r := true) (by decide +kernel)]
  try rfl
theorem kitLst' : PySem.W.kitAny K (.type "list") [.type "tuple", .type "list"] = some true := by
  unfold PySem.W.kitAny
  rw [kit_ty (r := false) (by decide +kernel)]
  unfold PySem.W.kitAny
  rw [kit_ty (r := true) (by decide +kernel)]
  try rfl
theorem ndF {x y : V} (h : x = y) : (!decide (x = y)) = false := by rw [dT h]; rfl
theorem sameF (T : Txt K mg a) : FnOk P w K mg base CX0 1 a.f__law_same a.d__law_same ["_law_result", "_law_expected"] (spAk R0) := by
  refine T.F__law_same.ok sc__law_same (fun vs H Q E h => ?_) (fun cdv A outer s H vs Q E hr h => ?_)
  · obtain ⟨u, v, rfl, _⟩ := h
    rfl
  · obtain ⟨u, v, rfl, f, k⟩ := h
    revert f
    intro f
    obtain ⟨rfl, ⟨c, rfl⟩ | ⟨b, rfl⟩ | ⟨s0, rfl⟩ | rfl⟩ := f
    · refine ⟨_, (pss_cons (ps_if (pt_val (pe_callB call_isiT (by rfl) T.z_isinstance (by decide +kernel) (pa_cons (pv 1) (pa_cons (pe_tup (pa_cons (pe_bltn (v := .ty "tuple") (by rfl) T.z_tuple (by decide +kernel) rfl) (pa_cons (pe_bltn (v := .ty "list") (by rfl) T.z_list (by decide +kernel) rfl) pa_nil))) pa_nil)))) (pss_cons ps_never (pss_cons ps_never (pss_one ps_never))) pss_nil)
      (pss_cons (ps_if (pt_cmpR op_ne (pe_callB call_isi (by rfl) T.z_isinstance (by decide +kernel) (pa_cons (pv 0) (pa_cons (pe_bltn (v := .ty "bool") (by rfl) T.z_bool (by decide +kernel) rfl) pa_nil))) (pe_callB call_isi (by rfl) T.z_isinstance (by decide +kernel) (pa_cons (pv 1) (pa_cons (pe_bltn (v := .ty "bool") (by rfl) T.z_bool (by decide +kernel) rfl) pa_nil))) (nomark _)) (pss_one (ps_ret pe_bl)) pss_nil)
      (pss_one (ps_ret (pe_and (pe_cmpR op_eq (pe_callB call_isi (by rfl) T.z_isinstance (by decide +kernel) (pa_cons (pv 0) (pa_cons (pe_bltn (v := .ty "int") (by rfl) T.z_int (by decide +kernel) rfl) pa_nil))) (pe_callB call_isi (by rfl) T.z_isinstance (by decide +kernel) (pa_cons (pv 1) (pa_cons (pe_bltn (v := .ty "int") (by rfl) T.z_int (by decide +kernel) rfl) pa_nil))) (nomark _)) (pe_one (pe_cmpR op_eq (pv 0) (pv 1) (nomark _)))))))), ?_⟩
      refine ⟨_, rfl, by show 2 ≤ sizeLine; decide, fun tp ntp => ?_⟩
      have s1 := same_upd (o := .tup [.ty "tuple", .ty "list"]) ntp
      refine ⟨.int c, tp, [.ty "tuple", .ty "list"], .type "int", [.type "tuple", .type "list"], false, rfl, upd_same, .cons (.ty _) (.cons (.ty _) .nil), .base (.int c), kitN' (by decide +kernel) (by decide +kernel), _, rfl, ?_⟩
      refine ifF rfl ?_
      refine ⟨_, rfl, .int c, .ty "bool", .type "int", .type "bool", false, rfl, .ty _, .base (.int c), kit_ty (by decide +kernel), ?_⟩
      refine ⟨_, rfl, .int c, .ty "bool", .type "int", .type "bool", false, rfl, .ty _, .base (.int c), kit_ty (by decide +kernel), rfl, _, rfl, ?_⟩
      refine ifF (ndF rfl) ?_
      refine ⟨_, rfl, .int c, .ty "int", .type "int", .type "int", true, rfl, .ty _, .base (.int c), kit_ty (by decide +kernel), ?_⟩
      refine ⟨_, rfl, .int c, .ty "int", .type "int", .type "int", true, rfl, .ty _, .base (.int c), kit_ty (by decide +kernel), rfl, true, congrArg V.bl (dT rfl), ?_⟩
      refine ifT rfl ?_
      refine ⟨_, rfl, _, rfl, rfl, ?_⟩
      rw [show (decide (V.int c = V.int c)) = true from decide_eq_true rfl]
      exact k _ s1
    · refine ⟨_, (pss_cons (ps_if (pt_val (pe_callB call_isiT (by rfl) T.z_isinstance (by decide +kernel) (pa_cons (pv 1) (pa_cons (pe_tup (pa_cons (pe_bltn (v := .ty "tuple") (by rfl) T.z_tuple (by decide +kernel) rfl) (pa_cons (pe_bltn (v := .ty "list") (by rfl) T.z_list (by decide +kernel) rfl) pa_nil))) pa_nil)))) (pss_cons ps_never (pss_cons ps_never (pss_one ps_never))) pss_nil)
      (pss_cons (ps_if (pt_cmpR op_ne (pe_callB call_isi (by rfl) T.z_isinstance (by decide +kernel) (pa_cons (pv 0) (pa_cons (pe_bltn (v := .ty "bool") (by rfl) T.z_bool (by decide +kernel) rfl) pa_nil))) (pe_callB call_isi (by rfl) T.z_isinstance (by decide +kernel) (pa_cons (pv 1) (pa_cons (pe_bltn (v := .ty "bool") (by rfl) T.z_bool (by decide +kernel) rfl) pa_nil))) (nomark _)) (pss_one (ps_ret pe_bl)) pss_nil)
      (pss_one (ps_ret (pe_and (pe_cmpR op_eq (pe_callB call_isi (by rfl) T.z_isinstance (by decide +kernel) (pa_cons (pv 0) (pa_cons (pe_bltn (v := .ty "int") (by rfl) T.z_int (by decide +kernel) rfl) pa_nil))) (pe_callB call_isi (by rfl) T.z_isinstance (by decide +kernel) (pa_cons (pv 1) (pa_cons (pe_bltn (v := .ty "int") (by rfl) T.z_int (by decide +kernel) rfl) pa_nil))) (nomark _)) (pe_one (pe_cmpR op_eq (pv 0) (pv 1) (nomark _)))))))), ?_⟩
      refine ⟨_, rfl, by show 2 ≤ sizeLine; decide, fun tp ntp => ?_⟩
      have s1 := same_upd (o := .tup [.ty "tuple", .ty "list"]) ntp
      refine ⟨.bl b, tp, [.ty "tuple", .ty "list"], .type "bool", [.type "tuple", .type "list"], false, rfl, upd_same, .cons (.ty _) (.cons (.ty _) .nil), .base (.bl b), kitN' (by decide +kernel) (by decide +kernel), _, rfl, ?_⟩
      refine ifF rfl ?_
      refine ⟨_, rfl, .bl b, .ty "bool", .type "bool", .type "bool", true, rfl, .ty _, .base (.bl b), kit_ty (by decide +kernel), ?_⟩
      refine ⟨_, rfl, .bl b, .ty "bool", .type "bool", .type "bool", true, rfl, .ty _, .base (.bl b), kit_ty (by decide +kernel), rfl, _, rfl, ?_⟩
      refine ifF (ndF rfl) ?_
      refine ⟨_, rfl, .bl b, .ty "int", .type "bool", .type "int", true, rfl, .ty _, .base (.bl b), kit_ty (by decide +kernel), ?_⟩
      refine ⟨_, rfl, .bl b, .ty "int", .type "bool", .type "int", true, rfl, .ty _, .base (.bl b), kit_ty (by decide +kernel), rfl, true, congrArg V.bl (dT rfl), ?_⟩
      refine ifT rfl ?_
      refine ⟨_, rfl, _, rfl, rfl, ?_⟩
      rw [show (decide (V.bl b = V.bl b)) = true from decide_eq_true rfl]
      exact k _ s1
    · refine ⟨_, (pss_cons (ps_if (pt_val (pe_callB call_isiT (by rfl) T.z_isinstance (by decide +kernel) (pa_cons (pv 1) (pa_cons (pe_tup (pa_cons (pe_bltn (v := .ty "tuple") (by rfl) T.z_tuple (by decide +kernel) rfl) (pa_cons (pe_bltn (v := .ty "list") (by rfl) T.z_list (by decide +kernel) rfl) pa_nil))) pa_nil)))) (pss_cons ps_never (pss_cons ps_never (pss_one ps_never))) pss_nil)
      (pss_cons (ps_if (pt_cmpR op_ne (pe_callB call_isi (by rfl) T.z_isinstance (by decide +kernel) (pa_cons (pv 0) (pa_cons (pe_bltn (v := .ty "bool") (by rfl) T.z_bool (by decide +kernel) rfl) pa_nil))) (pe_callB call_isi (by rfl) T.z_isinstance (by decide +kernel) (pa_cons (pv 1) (pa_cons (pe_bltn (v := .ty "bool") (by rfl) T.z_bool (by decide +kernel) rfl) pa_nil))) (nomark _)) (pss_one (ps_ret pe_bl)) pss_nil)
      (pss_one (ps_ret (pe_and (pe_cmpR op_eq (pe_callB call_isi (by rfl) T.z_isinstance (by decide +kernel) (pa_cons (pv 0) (pa_cons (pe_bltn (v := .ty "int") (by rfl) T.z_int (by decide +kernel) rfl) pa_nil))) (pe_callB call_isi (by rfl) T.z_isinstance (by decide +kernel) (pa_cons (pv 1) (pa_cons (pe_bltn (v := .ty "int") (by rfl) T.z_int (by decide +kernel) rfl) pa_nil))) (nomark _)) (pe_one (pe_cmpR op_eq (pv 0) (pv 1) (nomark _)))))))), ?_⟩
      refine ⟨_, rfl, by show 2 ≤ sizeLine; decide, fun tp ntp => ?_⟩
      have s1 := same_upd (o := .tup [.ty "tuple", .ty "list"]) ntp
      refine ⟨.str s0, tp, [.ty "tuple", .ty "list"], .type "str", [.type "tuple", .type "list"], false, rfl, upd_same, .cons (.ty _) (.cons (.ty _) .nil), .base (.str s0), kitN' (by decide +kernel) (by decide +kernel), _, rfl, ?_⟩
      refine ifF rfl ?_
      refine ⟨_, rfl, .str s0, .ty "bool", .type "str", .type "bool", false, rfl, .ty _, .base (.str s0), kit_ty (by decide +kernel), ?_⟩
      refine ⟨_, rfl, .str s0, .ty "bool", .type "str", .type "bool", false, rfl, .ty _, .base (.str s0), kit_ty (by decide +kernel), rfl, _, rfl, ?_⟩
      refine ifF (ndF rfl) ?_
      refine ⟨_, rfl, .str s0, .ty "int", .type "str", .type "int", false, rfl, .ty _, .base (.str s0), kit_ty (by decide +kernel), ?_⟩
      refine ⟨_, rfl, .str s0, .ty "int", .type "str", .type "int", false, rfl, .ty _, .base (.str s0), kit_ty (by decide +kernel), rfl, true, congrArg V.bl (dT rfl), ?_⟩
      refine ifT rfl ?_
      refine ⟨_, rfl, _, rfl, rfl, ?_⟩
      rw [show (decide (V.str s0 = V.str s0)) = true from decide_eq_true rfl]
      exact k _ s1
    · refine ⟨_, (pss_cons (ps_if (pt_val (pe_callB call_isiT (by rfl) T.z_isinstance (by decide +kernel) (pa_cons (pv 1) (pa_cons (pe_tup (pa_cons (pe_bltn (v := .ty "tuple") (by rfl) T.z_tuple (by decide +kernel) rfl) (pa_cons (pe_bltn (v := .ty "list") (by rfl) T.z_list (by decide +kernel) rfl) pa_nil))) pa_nil)))) (pss_cons ps_never (pss_cons ps_never (pss_one ps_never))) pss_nil)
      (pss_cons (ps_if (pt_cmpR op_ne (pe_callB call_isi (by rfl) T.z_isinstance (by decide +kernel) (pa_cons (pv 0) (pa_cons (pe_bltn (v := .ty "bool") (by rfl) T.z_bool (by decide +kernel) rfl) pa_nil))) (pe_callB call_isi (by rfl) T.z_isinstance (by decide +kernel) (pa_cons (pv 1) (pa_cons (pe_bltn (v := .ty "bool") (by rfl) T.z_bool (by decide +kernel) rfl) pa_nil))) (nomark _)) (pss_one (ps_ret pe_bl)) pss_nil)
      (pss_one (ps_ret (pe_and (pe_cmpR op_eq (pe_callB call_isi (by rfl) T.z_isinstance (by decide +kernel) (pa_cons (pv 0) (pa_cons (pe_bltn (v := .ty "int") (by rfl) T.z_int (by decide +kernel) rfl) pa_nil))) (pe_callB call_isi (by rfl) T.z_isinstance (by decide +kernel) (pa_cons (pv 1) (pa_cons (pe_bltn (v := .ty "int") (by rfl) T.z_int (by decide +kernel) rfl) pa_nil))) (nomark _)) (pe_one (pe_cmpR op_eq (pv 0) (pv 1) (nomark _)))))))), ?_⟩
      refine ⟨_, rfl, by show 2 ≤ sizeLine; decide, fun tp ntp => ?_⟩
      have s1 := same_upd (o := .tup [.ty "tuple", .ty "list"]) ntp
      refine ⟨.non, tp, [.ty "tuple", .ty "list"], .type "NoneType", [.type "tuple", .type "list"], false, rfl, upd_same, .cons (.ty _) (.cons (.ty _) .nil), .base .non, kitN' (by decide +kernel) (by decide +kernel), _, rfl, ?_⟩
      refine ifF rfl ?_
      refine ⟨_, rfl, .non, .ty "bool", .type "NoneType", .type "bool", false, rfl, .ty _, .base .non, kit_ty (by decide +kernel), ?_⟩
      refine ⟨_, rfl, .non, .ty "bool", .type "NoneType", .type "bool", false, rfl, .ty _, .base .non, kit_ty (by decide +kernel), rfl, _, rfl, ?_⟩
      refine ifF (ndF rfl) ?_
      refine ⟨_, rfl, .non, .ty "int", .type "NoneType", .type "int", false, rfl, .ty _, .base .non, kit_ty (by decide +kernel), ?_⟩
      refine ⟨_, rfl, .non, .ty "int", .type "NoneType", .type "int", false, rfl, .ty _, .base .non, kit_ty (by decide +kernel), rfl, true, congrArg V.bl (dT rfl), ?_⟩
      refine ifT rfl ?_
      refine ⟨_, rfl, _, rfl, rfl, ?_⟩
      rw [show (decide (V.non = V.non)) = true from decide_eq_true rfl]
      exact k _ s1
def spSq (R : V → V → Hp → Prop) : Sp := fun vs H Q _ => ∃ (x y : Addr) (xs ys : List V), vs = [.ref x, .ref y] ∧ Sq1 R H xs ys ∧ ((H x = some (.lst xs) ∧ H y = some (.lst ys)) ∨ (H x = some (.tup xs) ∧ H y = some (.tup ys))) ∧ ∀ H', Same H H' → Q (.bl true) H'
set_option maxHeartbeats 0 in
theorem sameQ {R : V → V → Hp → Prop} {k : Nat} (T : Txt K mg a) (m : ∀ u v H H', R u v H → Same H H' → R u v H') (G__law_same : FnOk P w K mg base CX0 k a.f__law_same a.d__law_same ["_law_result", "_law_expected"] (spAk R)) : FnOk P w K mg base CX0 (k + 1) a.f__law_same a.d__law_same ["_law_result", "_law_expected"] (spSq R) := by
  refine T.F__law_same.ok sc__law_same (fun vs H Q E h => ?_) (fun cdv A outer s H vs Q E hr h => ?_)
  · obtain ⟨x, y, xs, ys, rfl, _⟩ := h
    rfl
  · obtain ⟨x, y, xs, ys, rfl, sq, hxy, k⟩ := h
    have lxy := sq.1
    have lle := sq.2.1
    rcases hxy with ⟨hx, hy⟩ | ⟨hx, hy⟩
    · refine ⟨_, (pss_cons (ps_if (pt_val (pe_callB call_isiT (by rfl) T.z_isinstance (by decide +kernel) (pa_cons (pv 1) (pa_cons (pe_tup (pa_cons (pe_bltn (v := .ty "tuple") (by rfl) T.z_tuple (by decide +kernel) rfl) (pa_cons (pe_bltn (v := .ty "list") (by rfl) T.z_list (by decide +kernel) rfl) pa_nil))) pa_nil)))) (pss_cons (ps_if (PW.pt (pw_or (pt_not (pt_val (pe_callB call_isiT (by rfl) T.z_isinstance (by decide +kernel) (pa_cons (pv 0) (pa_cons (pe_tup (pa_cons (pe_bltn (v := .ty "tuple") (by rfl) T.z_tuple (by decide +kernel) rfl) (pa_cons (pe_bltn (v := .ty "list") (by rfl) T.z_list (by decide +kernel) rfl) pa_nil))) pa_nil))))) (pw_or1 (pt_cmpR op_ne (pe_callB call_isi (by rfl) T.z_isinstance (by decide +kernel) (pa_cons (pv 0) (pa_cons (pe_bltn (v := .ty "list") (by rfl) T.z_list (by decide +kernel) rfl) pa_nil))) (pe_callB call_isi (by rfl) T.z_isinstance (by decide +kernel) (pa_cons (pv 1) (pa_cons (pe_bltn (v := .ty "list") (by rfl) T.z_list (by decide +kernel) rfl) pa_nil))) (nomark _))))) (pss_one (ps_ret pe_bl)) pss_nil)
      (pss_cons (ps_if (pt_cmpR op_ne (pe_callB call_len_seq (by rfl) T.z_len PySem.boot_len (pa_cons (pv 0) pa_nil)) (pe_callB call_len_seq (by rfl) T.z_len PySem.boot_len (pa_cons (pv 1) pa_nil)) (nomark _)) (pss_one (ps_ret pe_bl)) pss_nil)
      (pss_one (ps_ret (pe_cmpR (op_eqD hr.units) (pe_lc (own := [("_law_k", 2)]) (g := gName 2) rfl sc__law_same.nd (pi_range1 (by rfl) T.z_range (pa_cons (pe_callB call_len_seq (by rfl) T.z_len PySem.boot_len (pa_cons (pv 1) pa_nil)) pa_nil)) (blkOk_by (own := [("_law_k", 2)]) (N := ["_law_result", "_law_expected", "_law_k"]) (sc := (defScope s__law_same)) (by decide +kernel)) (fun _ _ _ _ _ => pg_name (i := 2) sc__law_same.nd rfl (Or.inl rfl)) (fun _ _ _ _ _ => pts_one (pt_not (pt_val (pe_call G__law_same (hr.mono (Nat.le_refl _)) (by rfl) T.mg__law_same T.F__law_same.kp (b__law_same T) .nil pass0 (pa_cons (pe_ix (show IxR _ (rIxL K) from ix_list) (pv 0) (pv 2) (fun _ _ => rfl)) (pa_cons (pe_ix (show IxR _ (rIxL K) from ix_list) (pv 1) (pv 2) (fun _ _ => rfl)) pa_nil)))))) (fun _ _ _ _ _ => (pv 2))) (pe_lst pa_nil) (nomark _)))))) pss_nil)
      (pss_cons (ps_if (pt_cmpR op_ne (pe_callB call_isi (by rfl) T.z_isinstance (by decide +kernel) (pa_cons (pv 0) (pa_cons (pe_bltn (v := .ty "bool") (by rfl) T.z_bool (by decide +kernel) rfl) pa_nil))) (pe_callB call_isi (by rfl) T.z_isinstance (by decide +kernel) (pa_cons (pv 1) (pa_cons (pe_bltn (v := .ty "bool") (by rfl) T.z_bool (by decide +kernel) rfl) pa_nil))) (nomark _)) (pss_one (ps_ret pe_bl)) pss_nil)
      (pss_one (ps_ret (pe_and (pe_cmpR op_eq (pe_callB call_isi (by rfl) T.z_isinstance (by decide +kernel) (pa_cons (pv 0) (pa_cons (pe_bltn (v := .ty "int") (by rfl) T.z_int (by decide +kernel) rfl) pa_nil))) (pe_callB call_isi (by rfl) T.z_isinstance (by decide +kernel) (pa_cons (pv 1) (pa_cons (pe_bltn (v := .ty "int") (by rfl) T.z_int (by decide +kernel) rfl) pa_nil))) (nomark _)) (pe_one (pe_cmpR op_eq (pv 0) (pv 1) (nomark _)))))))), ?_⟩
      refine ⟨_, rfl, by show 2 ≤ sizeLine; decide, fun tp ntp => ?_⟩
      have s1 := same_upd (o := .tup [.ty "tuple", .ty "list"]) ntp
      refine ⟨.ref y, tp, [.ty "tuple", .ty "list"], .type "list", [.type "tuple", .type "list"], true, rfl, upd_same, .cons (.ty _) (.cons (.ty _) .nil), .base (.lst (s1 _ _ hy)), kitLst', _, rfl, ?_⟩
      refine ifT rfl ?_
      refine ⟨_, rfl, by show 2 ≤ sizeLine; decide, fun tp2 ntp2 => ?_⟩
      have s2 := same_upd (o := .tup [.ty "tuple", .ty "list"]) ntp2
      have s12 := s1.trans s2
      refine ⟨.ref x, tp2, [.ty "tuple", .ty "list"], .type "list", [.type "tuple", .type "list"], true, rfl, upd_same, .cons (.ty _) (.cons (.ty _) .nil), .base (.lst (s12 _ _ hx)), kitLst', ?_⟩
      refine ⟨_, rfl, ?_⟩
      refine ifF rfl ?_
      refine ⟨_, rfl, .ref x, .ty "list", .type "list", .type "list", true, rfl, .ty _, .base (.lst (s12 _ _ hx)), kit_ty (by decide +kernel), _, rfl, .ref y, .ty "list", .type "list", .type "list", true, rfl, .ty _, .base (.lst (s12 _ _ hy)), kit_ty (by decide +kernel), rfl, _, rfl, ?_⟩
      refine ifF rfl ?_
      refine ⟨_, rfl, x, _, rfl, .inl (SqL.of (s12 _ _ hx)), _, rfl, y, _, rfl, .inl (SqL.of (s12 _ _ hy)), rfl, _, rfl, ?_⟩
      refine ifF (by rw [sq.1]; show (!decide (V.int _ = V.int _)) = false; rw [decide_eq_true rfl]; rfl) ?_
      refine ⟨_, rfl, y, _, rfl, .inl (SqL.of (s12 _ _ hy)), (ys.length : Int), rfl, by omega, by omega, fun D hD => lc_range (lo := 0) (n := ((ys.length : Nat) : Int).toNat) (fun i H' => Same (upd (upd H tp (.tup [.ty "tuple", .ty "list"])) tp2 (.tup [.ty "tuple", .ty "list"])) H' ∧ H' D = some (.lst [])) ⟨same_upd hD, upd_same⟩ ?_ ?_⟩
      · rintro i H' hi ⟨sm, hD'⟩
        have hi : i < ys.length := by omega
        have hi2 : i < xs.length := by omega
        have sm12 := s12.trans sm
        have hu : xs[i]? = some xs[i] := List.getElem?_eq_getElem hi2
        have hv : ys[i]? = some ys[i] := List.getElem?_eq_getElem hi
        have ei : (0 : Int) + (i : Int) = (i : Int) := Int.zero_add _
        refine ⟨rfl, _, rfl, _, rfl, x, _, _, _, rfl, rfl, SqL.of (sm12 _ _ hx), by rw [ei]; exact atI_nat hu, _, rfl, _, rfl, y, _, _, _, rfl, rfl, SqL.of (sm12 _ _ hy), by rw [ei]; exact atI_nat hv, _, _, rfl, m _ _ _ _ (sq.2.2 i _ _ hu hv) sm12, fun H2 s2' => ?_⟩
        refine ⟨_, rfl, ?_⟩
        refine ifF rfl ?_
        exact ⟨sm.trans s2', s2' _ _ hD'⟩
      · rintro H' ⟨sm, hD'⟩
        refine ⟨Nat.zero_le _, fun q nq => ⟨.list [], .list [], .lst (SqL.of (same_upd nq _ _ hD')) .nil, .lst (SqL.of upd_same) .nil, rfl, rfl, ?_⟩⟩
        exact k _ ((s12.trans sm).trans (same_upd nq))
    · refine ⟨_, (pss_cons (ps_if (pt_val (pe_callB call_isiT (by rfl) T.z_isinstance (by decide +kernel) (pa_cons (pv 1) (pa_cons (pe_tup (pa_cons (pe_bltn (v := .ty "tuple") (by rfl) T.z_tuple (by decide +kernel) rfl) (pa_cons (pe_bltn (v := .ty "list") (by rfl) T.z_list (by decide +kernel) rfl) pa_nil))) pa_nil)))) (pss_cons (ps_if (PW.pt (pw_or (pt_not (pt_val (pe_callB call_isiT (by rfl) T.z_isinstance (by decide +kernel) (pa_cons (pv 0) (pa_cons (pe_tup (pa_cons (pe_bltn (v := .ty "tuple") (by rfl) T.z_tuple (by decide +kernel) rfl) (pa_cons (pe_bltn (v := .ty "list") (by rfl) T.z_list (by decide +kernel) rfl) pa_nil))) pa_nil))))) (pw_or1 (pt_cmpR op_ne (pe_callB call_isi (by rfl) T.z_isinstance (by decide +kernel) (pa_cons (pv 0) (pa_cons (pe_bltn (v := .ty "list") (by rfl) T.z_list (by decide +kernel) rfl) pa_nil))) (pe_callB call_isi (by rfl) T.z_isinstance (by decide +kernel) (pa_cons (pv 1) (pa_cons (pe_bltn (v := .ty "list") (by rfl) T.z_list (by decide +kernel) rfl) pa_nil))) (nomark _))))) (pss_one (ps_ret pe_bl)) pss_nil)
      (pss_cons (ps_if (pt_cmpR op_ne (pe_callB call_len_seq (by rfl) T.z_len PySem.boot_len (pa_cons (pv 0) pa_nil)) (pe_callB call_len_seq (by rfl) T.z_len PySem.boot_len (pa_cons (pv 1) pa_nil)) (nomark _)) (pss_one (ps_ret pe_bl)) pss_nil)
      (pss_one (ps_ret (pe_cmpR (op_eqD hr.units) (pe_lc (own := [("_law_k", 2)]) (g := gName 2) rfl sc__law_same.nd (pi_range1 (by rfl) T.z_range (pa_cons (pe_callB call_len_seq (by rfl) T.z_len PySem.boot_len (pa_cons (pv 1) pa_nil)) pa_nil)) (blkOk_by (own := [("_law_k", 2)]) (N := ["_law_result", "_law_expected", "_law_k"]) (sc := (defScope s__law_same)) (by decide +kernel)) (fun _ _ _ _ _ => pg_name (i := 2) sc__law_same.nd rfl (Or.inl rfl)) (fun _ _ _ _ _ => pts_one (pt_not (pt_val (pe_call G__law_same (hr.mono (Nat.le_refl _)) (by rfl) T.mg__law_same T.F__law_same.kp (b__law_same T) .nil pass0 (pa_cons (pe_ix (show IxR _ (rIxT K) from ix_tup) (pv 0) (pv 2) (fun _ _ => rfl)) (pa_cons (pe_ix (show IxR _ (rIxT K) from ix_tup) (pv 1) (pv 2) (fun _ _ => rfl)) pa_nil)))))) (fun _ _ _ _ _ => (pv 2))) (pe_lst pa_nil) (nomark _)))))) pss_nil)
      (pss_cons (ps_if (pt_cmpR op_ne (pe_callB call_isi (by rfl) T.z_isinstance (by decide +kernel) (pa_cons (pv 0) (pa_cons (pe_bltn (v := .ty "bool") (by rfl) T.z_bool (by decide +kernel) rfl) pa_nil))) (pe_callB call_isi (by rfl) T.z_isinstance (by decide +kernel) (pa_cons (pv 1) (pa_cons (pe_bltn (v := .ty "bool") (by rfl) T.z_bool (by decide +kernel) rfl) pa_nil))) (nomark _)) (pss_one (ps_ret pe_bl)) pss_nil)
      (pss_one (ps_ret (pe_and (pe_cmpR op_eq (pe_callB call_isi (by rfl) T.z_isinstance (by decide +kernel) (pa_cons (pv 0) (pa_cons (pe_bltn (v := .ty "int") (by rfl) T.z_int (by decide +kernel) rfl) pa_nil))) (pe_callB call_isi (by rfl) T.z_isinstance (by decide +kernel) (pa_cons (pv 1) (pa_cons (pe_bltn (v := .ty "int") (by rfl) T.z_int (by decide +kernel) rfl) pa_nil))) (nomark _)) (pe_one (pe_cmpR op_eq (pv 0) (pv 1) (nomark _)))))))), ?_⟩
      refine ⟨_, rfl, by show 2 ≤ sizeLine; decide, fun tp ntp => ?_⟩
      have s1 := same_upd (o := .tup [.ty "tuple", .ty "list"]) ntp
      refine ⟨.ref y, tp, [.ty "tuple", .ty "list"], .type "tuple", [.type "tuple", .type "list"], true, rfl, upd_same, .cons (.ty _) (.cons (.ty _) .nil), .base (.tup (s1 _ _ hy)), kitTup', _, rfl, ?_⟩
      refine ifT rfl ?_
      refine ⟨_, rfl, by show 2 ≤ sizeLine; decide, fun tp2 ntp2 => ?_⟩
      have s2 := same_upd (o := .tup [.ty "tuple", .ty "list"]) ntp2
      have s12 := s1.trans s2
      refine ⟨.ref x, tp2, [.ty "tuple", .ty "list"], .type "tuple", [.type "tuple", .type "list"], true, rfl, upd_same, .cons (.ty _) (.cons (.ty _) .nil), .base (.tup (s12 _ _ hx)), kitTup', ?_⟩
      refine ⟨_, rfl, ?_⟩
      refine ifF rfl ?_
      refine ⟨_, rfl, .ref x, .ty "list", .type "tuple", .type "list", false, rfl, .ty _, .base (.tup (s12 _ _ hx)), kit_ty (by decide +kernel), _, rfl, .ref y, .ty "list", .type "tuple", .type "list", false, rfl, .ty _, .base (.tup (s12 _ _ hy)), kit_ty (by decide +kernel), rfl, _, rfl, ?_⟩
      refine ifF rfl ?_
      refine ⟨_, rfl, x, _, rfl, .inr (SqT.of (s12 _ _ hx)), _, rfl, y, _, rfl, .inr (SqT.of (s12 _ _ hy)), rfl, _, rfl, ?_⟩
      refine ifF (by rw [sq.1]; show (!decide (V.int _ = V.int _)) = false; rw [decide_eq_true rfl]; rfl) ?_
      refine ⟨_, rfl, y, _, rfl, .inr (SqT.of (s12 _ _ hy)), (ys.length : Int), rfl, by omega, by omega, fun D hD => lc_range (lo := 0) (n := ((ys.length : Nat) : Int).toNat) (fun i H' => Same (upd (upd H tp (.tup [.ty "tuple", .ty "list"])) tp2 (.tup [.ty "tuple", .ty "list"])) H' ∧ H' D = some (.lst [])) ⟨same_upd hD, upd_same⟩ ?_ ?_⟩
      · rintro i H' hi ⟨sm, hD'⟩
        have hi : i < ys.length := by omega
        have hi2 : i < xs.length := by omega
        have sm12 := s12.trans sm
        have hu : xs[i]? = some xs[i] := List.getElem?_eq_getElem hi2
        have hv : ys[i]? = some ys[i] := List.getElem?_eq_getElem hi
        have ei : (0 : Int) + (i : Int) = (i : Int) := Int.zero_add _
        refine ⟨rfl, _, rfl, _, rfl, x, _, _, _, rfl, rfl, SqT.of (sm12 _ _ hx), by rw [ei]; exact atI_nat hu, _, rfl, _, rfl, y, _, _, _, rfl, rfl, SqT.of (sm12 _ _ hy), by rw [ei]; exact atI_nat hv, _, _, rfl, m _ _ _ _ (sq.2.2 i _ _ hu hv) sm12, fun H2 s2' => ?_⟩
        refine ⟨_, rfl, ?_⟩
        refine ifF rfl ?_
        exact ⟨sm.trans s2', s2' _ _ hD'⟩
      · rintro H' ⟨sm, hD'⟩
        refine ⟨Nat.zero_le _, fun q nq => ⟨.list [], .list [], .lst (SqL.of (same_upd nq _ _ hD')) .nil, .lst (SqL.of upd_same) .nil, rfl, rfl, ?_⟩⟩
        exact k _ ((s12.trans sm).trans (same_upd nq))
theorem sameS {R : V → V → Hp → Prop} {k : Nat} (T : Txt K mg a) (m : ∀ u v H H', R u v H → Same H H' → R u v H') (G : FnOk P w K mg base CX0 k a.f__law_same a.d__law_same ["_law_result", "_law_expected"] (spAk R)) : FnOk P w K mg base CX0 (k + 1) a.f__law_same a.d__law_same ["_law_result", "_law_expected"] (spAk (AS R)) :=
  (fnOr ((sameF T).mono (Nat.le_add_left 1 k)) (sameQ T m G)).imp fun vs H Q E h => by
    obtain ⟨u, v, e, f | ⟨x, y, xs, ys, rfl, rfl, sq, hxy⟩, g⟩ := h
    · exact .inl ⟨u, v, e, f, g⟩
    · exact .inr ⟨x, y, xs, ys, e, sq, hxy, g⟩
theorem same1 (T : Txt K mg a) : FnOk P w K mg base CX0 2 a.f__law_same a.d__law_same ["_law_result", "_law_expected"] (spAk R1) := sameS T R0.mono (sameF T)
theorem same2 (T : Txt K mg a) : FnOk P w K mg base CX0 3 a.f__law_same a.d__law_same ["_law_result", "_law_expected"] (spAk R2) := sameS T R1.mono (same1 T)
end
/-! what is alike -/
theorem Fl.int (n : Int) : Fl (.int n) (.int n) := ⟨rfl, .inl ⟨n, rfl⟩⟩
theorem Fl.bl (b : Bool) : Fl (.bl b) (.bl b) := ⟨rfl, .inr (.inl ⟨b, rfl⟩)⟩
theorem Fl.str (s : Str) : Fl (.str s) (.str s) := ⟨rfl, .inr (.inr (.inl ⟨s, rfl⟩))⟩
theorem Fl.non : Fl .non .non := ⟨rfl, .inr (.inr (.inr rfl))⟩
theorem Sq1.nil {R : V → V → Hp → Prop} {H : Hp} : Sq1 R H [] [] := ⟨rfl, by decide, fun i u v h => by simp at h⟩
theorem Sq1.cons {R : V → V → Hp → Prop} {H : Hp} {u v : V} {xs ys : List V} (h : R u v H) (q : Sq1 R H xs ys) (l : xs.length < 1000000) : Sq1 R H (u :: xs) (v :: ys) := ⟨by rw [List.length_cons, List.length_cons, q.1], by rw [List.length_cons]; omega, fun i u' v' a b => match i, a, b with
  | 0, a, b => by cases a; cases b; exact h
  | i + 1, a, b => q.2.2 i u' v' a b⟩
theorem Sq1.ints {H : Hp} {ns : List Int} (l : ns.length ≤ 1000000) : Sq1 R0 H (ns.map V.int) (ns.map V.int) := ⟨rfl, by rw [List.length_map]; exact l, fun i u v a b => by
  rw [a] at b; cases b
  rw [List.getElem?_map] at a
  cases e : ns[i]? with
  | none => rw [e] at a; cases a
  | some n => rw [e] at a; cases a; exact Fl.int n⟩
end W6

set_option maxHeartbeats 4000000
/-! o[i] by the class's own __getitem__, o(i) by its own __call__ -/
namespace Ru
open PySem PySem.Spec PyProof.Rows L2 StX
section
variable {X : Cx} {CX : CXT} {k i : Nat} {f C : Addr} {fd : FuncData} {ps : List Str} {sp : Sp} {E : XK} {x : Str} {a b e : Expr} {es : List Expr} {ta tb : TE} {t : TA} {p pos : Pos}
/-- o[i], o an instance of C -/
def rOwnIx (C : Addr) (sp : Sp) (E : XK) : R2 := fun x y H Q => ∃ o dx fs, x = .ref o ∧ H o = some (.ins C dx fs) ∧ sp [.ref o, y] H Q E
theorem run_fn1 {pins : List (Addr × Obj)} {σ : L2.St} {H : Hp} {s : Shared} {Q : VK} {us : List Value} {vs : List V} (F : FnOk X.prog X.w X.K X.mg X.base CX k f fd ps sp) (hr : Room (k + 1) X.A) (hb : Binds X.K fd ps []) (hx : Passes CX X E)
    (I : Inv X pins σ H s) (r : Vals vs us) (h : sp vs H Q E) : wpAny (model X.prog X.w) X.A.in1 (call (.ref f) us) (EP X pins σ Q) X.xe s := by
  have hl : us.length = ps.length := by rw [← r.length]; exact F.len _ _ _ _ h
  have z := hb s us I.kIn (by rw [List.append_nil]; exact hl)
  rw [List.append_nil] at z
  refine wpAny_call (codeAny_mono (F.run X.A.in1 X.stack s H ⟨us, []⟩ us vs Q E hr.in1 I.env0.in1 z r h) fun r s' hq => ?_)
  cases r with
  | error e => exact hx pins σ H s e s' I hq
  | ok fl =>
    cases fl with
    | ret u => exact I.after hq
    | next => exact False.elim hq
    | brk => exact False.elim hq
    | cont => exact False.elim hq
theorem pe_ixOwn (mt : Meth X.K C "__getitem__" f) (hfn : PySem.W.fnIn X.K f = true) (F : FnOk X.prog X.w X.K X.mg X.base CX k f fd ps sp) (hb0 : Binds X.K fd ps []) (hr : Room (k + 1) X.A) (hx : Passes CX X E) (ha : PE X a ta) (hb : PE X b tb)
    (hs : ∀ v u : Value, subscripted b true v u = runValue (.builtin "lifetime.subscript" ⟨[v, u], []⟩) := by intro _ _; rfl) : PE X (.Subscript a b pos) (tOp (rOwnIx C sp E) ta tb) := by
  refine ⟨fun pins s σ H Q I h => ?_⟩
  refine Subscript_ (binT ha hb I h fun v u s2 xx yy H2 I2 rx ry q => ?_)
  obtain ⟨o, dx, fs, rfl, ho, hsp⟩ := q
  obtain rfl : v = Value.ref o := rx
  obtain ⟨mA, J, _⟩ := ins_get I2.hok ho
  obtain ⟨od, J, _⟩ := J.look
  obtain ⟨m, hF⟩ := I2.fr
  exact PySem.W.sub_K hF I2.ok.mod.kin J mt.at_ hfn mt.fn (run_fn1 (us := [.ref o, u]) (vs := [.ref o, yy]) F hr hb0 hx I2 (.cons rfl (.cons ry .nil)) hsp) (hs _ _)
/-- a call whose callee is a plain instance when the arguments are there -/
theorem callWith_inst {M : Model} {A : Around} {W : Value → Shared → Prop} {sq : Shared} {en : Env} {o : Addr} {Qz : Value → Shared → Prop}
    (h : wpAny M A (spliced (backTo pos (starEach (e :: es) en))) (fun vs sz => (∃ (K : PySem.W.Frag) (C : Addr) (ox : Obj) (od : Option Obj), PySem.W.InstAt sz.heap o ox C od ∧ ox.data = .plain) ∧ wpAny M A (call (.ref o) vs) Qz W sz) W sq)
    (he : starEach (e :: es) en = (false, eval e en) :: starEach es en) (hpl : (backTo pos (starEach es en)).any (·.1) = false) :
    wpAny M A (callWith pos (.ref o) [] (backTo pos (starEach (e :: es) en)) []) Qz W sq := by
  have hp : ((backTo pos (starEach (e :: es) en)).any (·.1) || ([] : List (Option Str × Sem Value)).any (·.1.isNone)) = false := by
    rw [he]
    show ((false || (backTo pos (starEach es en)).any (·.1)) || false) = false
    rw [hpl]; rfl
  have ev : wpAny M A (evalArgs (.ref o) true (backTo pos (starEach (e :: es) en)) []) (fun r sz => (∃ (K : PySem.W.Frag) (C : Addr) (ox : Obj) (od : Option Obj), PySem.W.InstAt sz.heap o ox C od ∧ ox.data = .plain) ∧ wpAny M A (call (.ref o) r.pos r.kw) Qz W sz) W sq := by
    rw [he] at h ⊢
    exact Calls.evalArgs_plain h
  unfold callWith
  refine wpAny_bind (wpAny_holding (wpAny_mono ev (fun r sz hz => ?_) fun _ _ z => z))
  obtain ⟨⟨K, C, ox, od, J, hd⟩, go⟩ := hz
  refine wpAny_bind (wpAny_standAt ?_)
  simp only [hp]
  refine wpAny_bind ((PySem.W.kco_keeper (M := M) J hd).here ?_)
  exact wpAny_bind (wpAny_mono (wpAny_operateT go) (fun v sv hv => wpAny_bind (wpAny_holding (wpAny_point (wpAny_pure hv)))) fun _ _ z => z)
/-- x(e, ..), x a name of the def that holds an instance of C -/
def tCallO (C : Addr) (i : Nat) (sp : Sp) (E : XK) (t : TA) : TE := fun σ H Q => ∃ o, σ[i]? = some (some (.ref o)) ∧ t σ H fun vs H1 => ∃ dx fs, H1 o = some (.ins C dx fs) ∧ sp (.ref o :: vs) H1 Q E
theorem pe_callO (mt : Meth X.K C "__call__" f) (hfn : PySem.W.fnIn X.K f = true) (F : FnOk X.prog X.w X.K X.mg X.base CX k f fd ps sp) (hb0 : Binds X.K fd ps []) (hr : Room (k + 1) X.A) (hx : Passes CX X E) (hN : X.N[i]? = some x) (hv : Vis X.env.scope x) (ha : PA X (e :: es) t)
    (hdb : (x == ("__debug__" : Str)) = false := by decide) (hcd : (x == ("__classdict__" : Str)) = false := by decide)
    (he : starEach (e :: es) X.env = (false, eval e X.env) :: starEach es X.env := by rfl) (hpl : (backTo pos (starEach es X.env)).any (·.1) = false := by rfl) : PE X (.Call (.Name x p) (e :: es) [] pos) (tCallO C i sp E t) := by
  refine ⟨fun pins s σ H Q I h => ?_⟩
  obtain ⟨o, hs, ht⟩ := h
  refine wpAny_Call_Name_kw (thn ((pe_var (pos := p) hN hv hdb hcd).run pins s σ H (fun v H1 => v = .ref o ∧ H1 = H) I ⟨.ref o, hs, rfl, rfl⟩) fun u s1 ⟨v, H1, I1, r1, q1⟩ => ?_)
  obtain ⟨rfl, rfl⟩ := q1
  cases r1
  refine callWith_inst (thn (ha.run pos pins s1 σ _ _ I1 ht) fun us s2 ⟨vs, H2, I2, r, dx, fs, ho, hsp⟩ => ?_) he hpl
  obtain ⟨mA, J, _⟩ := ins_get I2.hok ho
  obtain ⟨od, J, _⟩ := J.look
  refine ⟨⟨X.K, C, _, _, J, rfl⟩, ?_⟩
  have r2 : Vals (V.ref o :: vs) (Value.ref o :: us) := .cons rfl r
  have hl : (Value.ref o :: us).length = ps.length := by rw [← r2.length]; exact F.len _ _ _ _ hsp
  have z := hb0 s2 (Value.ref o :: us) I2.kIn (by rw [List.append_nil]; exact hl)
  rw [List.append_nil] at z
  refine wpAny_call (PySem.W.kco_code I2.kIn J rfl mt.at_ mt.fn hfn (codeAny_mono (F.run X.A X.stack s2 H2 ⟨Value.ref o :: us, []⟩ (Value.ref o :: us) (V.ref o :: vs) Q E (hr.mono (Nat.le_succ _)) I2.env0 z r2 hsp) fun rr s' hq => ?_))
  cases rr with
  | error er => exact hx pins σ H2 s2 er s' I2 hq
  | ok fl =>
    cases fl with
    | ret u => exact I2.after hq
    | next => exact False.elim hq
    | brk => exact False.elim hq
    | cont => exact False.elim hq
end
end Ru

namespace Ru
open PySem PySem.Spec PyProof.Rows L2
/-! RuP: parts and sums of tuples, whatever they are -/
section
variable {K : PySem.W.Frag} {H : Hp} {p q : Addr} {cs : List Int} {i : Nat} {Q : VK}
theorem updS {o : HO} : upd H p o p = some o := by
  show (if p = p then some o else H p) = some o
  rw [if_pos rfl]
theorem take_min (i : Nat) (l : List Int) : l.take (min i l.length) = l.take i := by
  rcases Nat.le_total i l.length with h | h
  · rw [Nat.min_eq_left h]
  · rw [Nat.min_eq_right h, List.take_length, List.take_of_length_le h]
theorem cutPre : cutV (cs.map V.int) none (some (i : Int)) = (cs.take i).map V.int := by
  unfold cutV
  rw [HT.sIx_none, HT.sIx_nat, List.length_map, List.drop_zero, Nat.sub_zero, ← take_min, List.map_take]
theorem cutPost (h : i ≤ cs.length) : cutV (cs.map V.int) (some (i : Int)) none = (cs.drop i).map V.int := by
  unfold cutV
  rw [HT.sIx_none, HT.sIx_nat, List.length_map, Nat.min_eq_left h, List.map_drop, List.take_of_length_le]
  rw [List.length_drop, List.length_map]
  exact Nat.le_refl _
/-- t[:i] -/
theorem slPre (hp : H p = some (.tup (cs.map V.int))) (k : ∀ r H', Same H H' → H' r = some (.tup ((cs.take i).map V.int)) → Q (.ref r) H') : rSlA K (.ref p) none (some (i : Int)) H Q := by
  refine ⟨p, _, rfl, SqT.of hp, fun z => ?_, fun _ r hr => ?_⟩
  · obtain ⟨_, z⟩ := z
    rw [HT.sIx_nat, List.length_map] at z
    refine k _ _ (Same.refl _) ?_
    rw [← take_min, z, List.take_length]; exact hp
  · rw [cutPre]
    exact k _ _ (sameU hr) updS
/-- t[i:] -/
theorem slPost (hp : H p = some (.tup (cs.map V.int))) (h : i ≤ cs.length) (k : ∀ r H', Same H H' → H' r = some (.tup ((cs.drop i).map V.int)) → Q (.ref r) H') : rSlA K (.ref p) (some (i : Int)) none H Q := by
  refine ⟨p, _, rfl, SqT.of hp, fun z => ?_, fun _ r hr => ?_⟩
  · obtain ⟨z, _⟩ := z
    rw [HT.sIx_nat, List.length_map, Nat.min_eq_left h] at z
    refine k _ _ (Same.refl _) ?_
    rw [z, List.drop_zero]; exact hp
  · rw [cutPost h]
    exact k _ _ (sameU hr) updS
/-- t + u -/
theorem catAny {xs ys : List V} (hp : H p = some (.tup xs)) (hq : H q = some (.tup ys)) (hz : xs.length + ys.length ≤ sizeLine) (k : ∀ r H', Same H H' → H' r = some (.tup (xs ++ ys)) → Q (.ref r) H') : rCatA K (.ref p) (.ref q) H Q := by
  refine ⟨p, q, xs, ys, rfl, rfl, SqT.of hp, SqT.of hq, hz, fun e => ?_, fun _ e => ?_, fun _ _ r hr => k _ _ (sameU hr) updS⟩
  · refine k _ _ (Same.refl _) ?_
    rw [e, List.nil_append]; exact hq
  · refine k _ _ (Same.refl _) ?_
    rw [e, List.append_nil]; exact hp
end
end Ru

namespace W6
open PySem PySem.Spec PyProof.Rows L2 Ru StX LamX
theorem log_small {i : Nat} (h : i ≤ 1000) : (i : Int).natAbs.log2 < 1920 := by
  have e : (i : Int).natAbs = i := rfl
  rw [e]
  by_cases z : i = 0
  · subst z; decide
  · exact (Nat.log2_lt z).mpr (Nat.lt_of_le_of_lt h (Nat.lt_of_lt_of_le (by decide : 1000 < 2 ^ 10) (Nat.pow_le_pow_right (by decide) (by decide))))
def rLenS (K : PySem.W.Frag) : List V → Hp → VK → Prop := fun xs H Q => ∃ p ys, xs = [.ref p] ∧ (SqL K H p ys ∨ SqT K H p ys) ∧ Q (.int ys.length) H
/-- the sums of two weathers' changes -/
def addR (cs ds : List Int) : List Int := (List.range (Nat.lcm cs.length ds.length)).map fun t => cs.getD (t % cs.length) 0 + ds.getD (t % ds.length) 0
def spAddR : Sp := fun vs H Q _ => ∃ (t u : Addr) (cs ds : List Int), vs = [.ref t, .ref u] ∧ H t = some (.tup (cs.map V.int)) ∧ H u = some (.tup (ds.map V.int)) ∧ 1 ≤ cs.length ∧ cs.length ≤ 24 ∧ 1 ≤ ds.length ∧ ds.length ≤ 24 ∧
  ∀ p H', Same H H' → H' p = some (.lst ((addR cs ds).map V.int)) → Q (.ref p) H'
theorem at_mod (cs : List Int) (i : Nat) (c1 : 1 ≤ cs.length) : atI (cs.map V.int) ((0 + (i : Int)) % (((cs.map V.int).length : Nat) : Int)) = some (V.int (cs.getD (i % cs.length) 0)) := by
  have e : (0 + (i : Int)) % (((cs.map V.int).length : Nat) : Int) = ((i % cs.length : Nat) : Int) := by
    rw [List.length_map, Int.zero_add]
    rfl
  rw [e]
  have l : i % cs.length < cs.length := Nat.mod_lt _ (by omega)
  refine at_int (Int.natCast_nonneg _) ?_
  show (cs.map V.int)[i % cs.length]? = _
  rw [List.getElem?_map, List.getElem?_eq_getElem l]
  simp [List.getD, List.getElem?_eq_getElem l]
theorem lcStep' {H H' : Hp} {D : Addr} {o : HO} (hD : H D = none) (s : Same H H') : Same H (upd H' D o) := fun b u e => by
  rw [upd_ne (ne_of_none e hD)]; exact s _ _ e
/-- a list so many times -/
def rep (k : Nat) (cs : List Int) : List Int := (List.replicate k cs).flatten
def SameW (cs ds : List Int) : Prop := rep (Nat.lcm cs.length ds.length / cs.length) cs = rep (Nat.lcm cs.length ds.length / ds.length) ds
/-- amounts of ticks -/
def AM (cs : List Int) : Prop := 1 ≤ cs.length ∧ cs.length ≤ 24 ∧ ∀ c ∈ cs, -1000000 ≤ c ∧ c ≤ 1000000
theorem sum_bd6 : ∀ {cs : List Int}, (∀ c ∈ cs, -1000000 ≤ c ∧ c ≤ 1000000) → -(1000000 * (cs.length : Int)) ≤ cs.sum ∧ cs.sum ≤ 1000000 * (cs.length : Int)
  | [], _ => by simp
  | c :: r, h => by
    have h1 := h c List.mem_cons_self
    have h2 := sum_bd6 (cs := r) (fun x hx => h x (List.mem_cons_of_mem _ hx))
    simp only [List.sum_cons, List.length_cons]
    omega
def spSof : Sp := fun vs H Q _ => ∃ (t : Addr) (cs : List Int) (n : Nat), vs = [.ref t, .int n] ∧ H t = some (.tup (cs.map V.int)) ∧ AM cs ∧ ∀ H', Same H H' → Q (.int (Th.sumTo cs 0 n)) H'
def spSame : Sp := fun vs H Q _ => ∃ (t u : Addr) (cs ds : List Int), vs = [.ref t, .ref u] ∧ H t = some (.tup (cs.map V.int)) ∧ H u = some (.tup (ds.map V.int)) ∧ 1 ≤ cs.length ∧ cs.length ≤ 24 ∧ 1 ≤ ds.length ∧ ds.length ≤ 24 ∧
  ∀ b H', Same H H' → (b = true ↔ SameW cs ds) → Q (.bl b) H'
theorem cut_pre {cs : List Int} {i : Nat} (h : i ≤ cs.length) : cutV (cs.map V.int) none (some (i : Int)) = (cs.take i).map V.int := by
  unfold cutV
  rw [HT.sIx_none, HT.sIx_nat, List.length_map, Nat.min_eq_left h, List.drop_zero, Nat.sub_zero, List.map_take]
theorem cut_post {cs : List Int} {i : Nat} (h : i ≤ cs.length) : cutV (cs.map V.int) (some (i : Int)) none = (cs.drop i).map V.int := by
  unfold cutV
  rw [HT.sIx_none, HT.sIx_nat, List.length_map, Nat.min_eq_left h, List.map_drop, List.take_of_length_le]
  rw [List.length_drop, List.length_map]
  exact Nat.le_refl _
theorem lay_ints : ∀ ns : List Int, PyData.canLayAll0 (ns.map PyData.int) = true
  | [] => rfl
  | n :: r => by
    rw [List.map_cons, PyData.canLayAll0, lay_ints r]
    rfl
theorem dep_ints : ∀ ns : List Int, PyData.depthAll (ns.map PyData.int) = 0
  | [] => by simp [PyData.depthAll]
  | n :: r => by
    have e : PyData.depthAll ((n :: r).map PyData.int) = max (PyData.depth (.int n)) (PyData.depthAll (r.map PyData.int)) := rfl
    rw [e, dep_ints r]
    simp [PyData.depth]
theorem sh_intsT (ns : List Int) : SeqAt.shaped (.tuple (ns.map PyData.int)) = true := by
  unfold SeqAt.shaped
  rw [Bool.and_eq_true]
  refine ⟨lay_ints ns, decide_eq_true ?_⟩
  show PyData.depthAll (ns.map PyData.int) + 1 ≤ 64
  rw [dep_ints]; omega
theorem repA_of {K : PySem.W.Frag} {l : Addr} {xs : List V} {k : Nat} {H : Hp} {Q : VK} (hx : H l = some (.tup xs)) (ne : 1 ≤ xs.length) (k1 : 1 ≤ k) (k2 : k ≤ 1000) (hz : xs.length ≤ 1000) (g : ∀ p H', Same H H' → H' p = some (.tup (List.replicate k xs).flatten) → Q (.ref p) H') : rRepA K (.ref l) (.int k) H Q := by
  by_cases e : k = 1
  · subst e
    exact .inr ⟨l, xs, rfl, rfl, SqT.of hx, g l H (Same.refl _) (by rw [hx]; simp)⟩
  · exact .inl ⟨l, k, xs, rfl, rfl, SqT.of hx, fun z => by rw [z] at ne; exact absurd ne (by decide), by omega, by omega, hz, fun p hp => g p _ (same_upd hp) upd_same⟩
theorem rep_map (k : Nat) (cs : List Int) : (List.replicate k (cs.map V.int)).flatten = (rep k cs).map V.int := by
  unfold rep
  rw [List.map_flatten, List.map_replicate]
/-! ### the same in all ticks -/
theorem chAt_mod (cs : List Int) (t m : Nat) (h : cs.length ∣ m) : Th.chAt cs (t % m) = Th.chAt cs t := by
  unfold Th.chAt
  rw [Nat.mod_mod_of_dvd _ h]
theorem chAt_lt {cs : List Int} {t : Nat} (h : t < cs.length) : cs[t]? = some (Th.chAt cs t) := by
  unfold Th.chAt
  rw [Nat.mod_eq_of_lt h, List.getD_eq_getElem?_getD, List.getElem?_eq_getElem h]
  rfl
theorem chAt_sub {cs : List Int} {t : Nat} (h : cs.length ≤ t) : Th.chAt cs (t - cs.length) = Th.chAt cs t := by
  unfold Th.chAt
  rw [Nat.mod_eq_sub_mod h]
theorem rep_succ (k : Nat) (cs : List Int) : rep (k + 1) cs = cs ++ rep k cs := by
  unfold rep
  rw [List.replicate_succ, List.flatten_cons]
theorem rep_len (cs : List Int) : ∀ k : Nat, (rep k cs).length = k * cs.length
  | 0 => by simp [rep]
  | k + 1 => by rw [rep_succ, List.length_append, rep_len cs k, Nat.succ_mul]; omega
theorem rep_at (cs : List Int) : ∀ k t : Nat, t < k * cs.length → (rep k cs)[t]? = some (Th.chAt cs t)
  | 0, t, h => by simp at h
  | k + 1, t, h => by
    rw [rep_succ]
    rcases Nat.lt_or_ge t cs.length with l | l
    · rw [List.getElem?_append_left l, chAt_lt l]
    · rw [List.getElem?_append_right l, rep_at cs k (t - cs.length) (by rw [Nat.succ_mul] at h; omega), chAt_sub l]
theorem sameW_iff {cs ds : List Int} (h1 : 1 ≤ cs.length) (h2 : 1 ≤ ds.length) : SameW cs ds ↔ ∀ t, t < Nat.lcm cs.length ds.length → Th.chAt cs t = Th.chAt ds t := by
  have d1 : Nat.lcm cs.length ds.length / cs.length * cs.length = Nat.lcm cs.length ds.length := Nat.div_mul_cancel (Nat.dvd_lcm_left _ _)
  have d2 : Nat.lcm cs.length ds.length / ds.length * ds.length = Nat.lcm cs.length ds.length := Nat.div_mul_cancel (Nat.dvd_lcm_right _ _)
  unfold SameW
  constructor
  · intro e t ht
    have a1 := rep_at cs (Nat.lcm cs.length ds.length / cs.length) t (by omega)
    have a2 := rep_at ds (Nat.lcm cs.length ds.length / ds.length) t (by omega)
    rw [e, a2] at a1
    exact (Option.some.inj a1).symm
  · intro e
    refine List.ext_getElem? fun t => ?_
    rcases Nat.lt_or_ge t (Nat.lcm cs.length ds.length) with l | l
    · rw [rep_at cs _ t (by omega), rep_at ds _ t (by omega), e t l]
    · rw [List.getElem?_eq_none (by rw [rep_len]; omega), List.getElem?_eq_none (by rw [rep_len]; omega)]
theorem sameW_all {cs ds : List Int} (h1 : 1 ≤ cs.length) (h2 : 1 ≤ ds.length) {m : Nat} (hm : Nat.lcm cs.length ds.length ≤ m) : SameW cs ds ↔ ∀ t, t < m → Th.chAt cs t = Th.chAt ds t := by
  rw [sameW_iff h1 h2]
  have lp : 0 < Nat.lcm cs.length ds.length := Nat.lcm_pos (by omega) (by omega)
  exact ⟨fun h t _ => by rw [← chAt_mod cs t _ (Nat.dvd_lcm_left cs.length ds.length), ← chAt_mod ds t _ (Nat.dvd_lcm_right cs.length ds.length)]; exact h _ (Nat.mod_lt _ lp), fun h t ht => h t (by omega)⟩
theorem sum_chAt (cs : List Int) : ∀ n : Nat, ((List.range n).map fun t => Th.chAt cs t).sum = Th.sumTo cs 0 n
  | 0 => rfl
  | n + 1 => by
    rw [List.range_succ, List.map_append, List.sum_append, sum_chAt cs n]
    show _ = Th.sumTo cs 0 n + Th.chAt cs n + 0
    simp
section
variable {P : Program} {w : World} {K : PySem.W.Frag} {mg : Str → Option Value} {base : Heap} {a : Ad}
theorem ok_added_rounds (T : Txt K mg a) : FnOk P w K mg base CX0 1 a.f_added_rounds a.d_added_rounds ["one", "other"] spAddR := by
  refine T.F_added_rounds.ok sc_added_rounds (fun vs H Q E h => ?_) (fun cdv A outer s H vs Q E hr h => ?_)
  · obtain ⟨t, u, cs, ds, rfl, _⟩ := h
    rfl
  · obtain ⟨t, u, cs, ds, rfl, ht, hu, c1, c2, d1, d2, k⟩ := h
    refine ⟨_, (pss_cons (ps_set (i := 2) sc_added_rounds.nd rfl (Or.inl rfl) (pe_callBfun cr_lcm (by rfl) T.mg_lcm (pa_cons (pe_callB (show CallR _ (.builtin "len") (rLenS K) from call_len_seq) (by rfl) T.z_len PySem.boot_len (pa_cons (pv 0) pa_nil)) (pa_cons (pe_callB (show CallR _ (.builtin "len") (rLenS K) from call_len_seq) (by rfl) T.z_len PySem.boot_len (pa_cons (pv 1) pa_nil)) pa_nil))))
      (pss_one (ps_ret (pe_lc (own := [("tick", 3)]) (g := gName 3) rfl sc_added_rounds.nd (pi_range1 (by rfl) T.z_range (pa_cons (pv 2) pa_nil)) (blkOk_by (own := [("tick", 3)]) (N := ["one", "other", "many", "tick"]) (sc := (defScope s_added_rounds)) (by decide +kernel)) (fun _ _ _ _ _ => pg_name (i := 3) sc_added_rounds.nd rfl (Or.inl rfl)) (fun _ _ _ _ _ => pts_nil) (fun _ _ _ _ _ => (pe_op op_add (pe_ix (show IxR _ (rIxT K) from ix_tup) (pv 0) (pe_op op_mod (pv 3) (pe_callB (show CallR _ (.builtin "len") (rLenS K) from call_len_seq) (by rfl) T.z_len PySem.boot_len (pa_cons (pv 0) pa_nil))) (fun _ _ => rfl)) (pe_ix (show IxR _ (rIxT K) from ix_tup) (pv 1) (pe_op op_mod (pv 3) (pe_callB (show CallR _ (.builtin "len") (rLenS K) from call_len_seq) (by rfl) T.z_len PySem.boot_len (pa_cons (pv 1) pa_nil))) (fun _ _ => rfl)))))))), ?_⟩
    have n1 : (cs.map V.int).length = cs.length := List.length_map _
    have n2 : (ds.map V.int).length = ds.length := List.length_map _
    have lcd : Nat.lcm cs.length ds.length ≤ 24 * 24 := Nat.le_trans (Nat.lcm_le_mul (by omega) (by omega)) (Nat.mul_le_mul c2 d2)
    refine ⟨_, rfl, t, _, rfl, .inr (SqT.of ht), _, rfl, u, _, rfl, .inr (SqT.of hu), (cs.map V.int).length, (ds.map V.int).length, rfl, by omega, by omega, ?_⟩
    rw [n1, n2]
    refine ⟨_, rfl, ((Nat.lcm cs.length ds.length : Nat) : Int), rfl, by omega, by omega, fun D hD => lc_range (lo := 0) (n := ((Nat.lcm cs.length ds.length : Nat) : Int).toNat) (fun i H' => Same H H' ∧ H' D = some (.lst ((List.range i).map fun t => V.int (cs.getD (t % cs.length) 0 + ds.getD (t % ds.length) 0)))) ⟨same_upd hD, upd_same⟩ ?_ ?_⟩
    · intro i H' hi ⟨sm, hd⟩
      have h1 := sm _ _ ht
      have h2 := sm _ _ hu
      have p1 : (0 : Int) < ((cs.map V.int).length : Nat) := by rw [n1]; omega
      have p2 : (0 : Int) < ((ds.map V.int).length : Nat) := by rw [n2]; omega
      have q1 := at_mod cs i c1
      have q2 := at_mod ds i d1
      refine ⟨rfl, _, rfl, _, rfl, _, rfl, t, _, rfl, .inr (SqT.of h1), _, _, rfl, rfl, p1, t, _, _, _, rfl, rfl, SqT.of h1, q1, _, rfl, _, rfl, _, rfl, u, _, rfl, .inr (SqT.of h2), _, _, rfl, rfl, p2, u, _, _, _, rfl, rfl, SqT.of h2, q2, _, _, rfl, rfl, ?_⟩
      have iM : i < 24 * 24 := by omega
      refine ⟨_, hd, by rw [List.length_map, List.length_range]; exact small1000 (by omega), lcStep' hD sm, by rw [upd_same, List.range_succ, List.map_append]; rfl⟩
    · rintro H' ⟨sm, hd⟩
      refine k _ _ sm ?_
      rw [hd, addR, List.map_map]
      rfl
theorem addR_len (cs ds : List Int) : (addR cs ds).length = Nat.lcm cs.length ds.length := by rw [addR, List.length_map, List.length_range]
end
end W6

namespace W6
open PySem PySem.Spec PyProof.Rows L2 Ru StX LamX
theorem seq_if {c : TT} {A u : TS} {D : Ends} {σ : L2.St} {H : Hp} (C : L2.St → Hp → Prop) (h1 : ∀ D' : Ends, (∀ σ H, C σ H → D'.nx σ H) → tIfS c A tNext D' σ H) (h2 : ∀ σ H, C σ H → u D σ H) : tSeq (tIfS c A tNext) u D σ H := h1 _ h2
theorem g_if {i : Nat} {v : V} {c : TT} {A u : TS} {D : Ends} {σ : L2.St} {H : Hp} (C : L2.St → Hp → Prop) (h1 : ∀ D' : Ends, (∀ σ H, C σ H → D'.nx σ H) → tIfS c A tNext D' (σ.set i (some v)) H) (h2 : ∀ σ H, C σ H → u D σ H) : gName i v σ H (tSeq (tIfS c A tNext) u D) := h1 _ h2
theorem g_asg {i : Nat} {v : V} {te : TE} {g : TG} {u : TS} {D : Ends} {σ : L2.St} {H : Hp} (C : V → Hp → Prop) (h1 : ∀ Q7 : VK, (∀ w H', C w H' → Q7 w H') → te (σ.set i (some v)) H Q7) (h2 : ∀ w H', C w H' → g w (σ.set i (some v)) H' (u D)) : gName i v σ H (tSeq (tAsg te g) u D) := h1 _ h2
theorem seq_asg {te : TE} {g : TG} {u : TS} {D : Ends} {σ : L2.St} {H : Hp} (C : V → Hp → Prop) (h1 : ∀ Q7 : VK, (∀ w H', C w H' → Q7 w H') → te σ H Q7) (h2 : ∀ w H', C w H' → g w σ H' (u D)) : tSeq (tAsg te g) u D σ H := h1 _ h2
theorem pow12 : (10 : Int) ^ (12 : Int).toNat = 1000000000000 := by decide
theorem pow18 : (10 : Int) ^ (18 : Int).toNat = 1000000000000000000 := by decide
theorem tnext {D : Ends} {σ : L2.St} {H : Hp} (h : D.nx σ H) : tNext D σ H := h
theorem seq_par {ta : TA} {i j : Nat} {u : TS} {D : Ends} {σ : L2.St} {H : Hp} (C : V → V → Hp → Prop) (h1 : ∀ Q7 : List V → Hp → Prop, (∀ v w H', C v w H' → Q7 [v, w] H') → ta σ H Q7) (h2 : ∀ v w H', C v w H' → u D ((σ.set i (some v)).set j (some w)) H') : tSeq (tPar i j ta) u D σ H :=
  h1 (fun vs H1 => ∃ v w, vs = [v, w] ∧ u D ((σ.set i (some v)).set j (some w)) H1) fun v w H' c => ⟨v, w, rfl, h2 v w H' c⟩
theorem pickI {es : List Int} {r : Int} (h0 : 0 ≤ r) (h1 : r < (es.length : Int)) : ∃ e, e ∈ es ∧ atI (es.map V.int) r = some (.int e) := by
  obtain ⟨n, rfl⟩ : ∃ n : Nat, r = n := ⟨r.toNat, by omega⟩
  have hn : n < es.length := by omega
  exact ⟨es[n], List.getElem_mem hn, atI_nat (by rw [List.getElem?_map, List.getElem?_eq_getElem hn]; rfl)⟩
theorem seq_ife {c : TT} {A B u : TS} {D : Ends} {σ : L2.St} {H : Hp} (C : L2.St → Hp → Prop) (h1 : ∀ D' : Ends, (∀ σ H, C σ H → D'.nx σ H) → tIfS c A B D' σ H) (h2 : ∀ σ H, C σ H → u D σ H) : tSeq (tIfS c A B) u D σ H := h1 _ h2
theorem dl_two {H : Hp} {p q D : Addr} {r t : List V} (hp : H p = some (.tup r)) (hq : H q = some (.tup t)) (hD : H D = some (.lst [.ref p, .ref q])) : DL H D [r, t] := ⟨[p, q], hD, rfl, fun m u v a b => match m, a, b with | 0, a, b => by cases a; cases b; exact hp | 1, a, b => by cases a; cases b; exact hq⟩
theorem dl_rep {H : Hp} {p D : Addr} {r : List V} {n : Nat} (hp : H p = some (.tup r)) (hD : H D = some (.lst (List.replicate n (.ref p)))) : DL H D (List.replicate n r) := ⟨List.replicate n p, by rw [List.map_replicate]; exact hD, by rw [List.length_replicate, List.length_replicate], fun m u v a b => by
  have h1 := List.mem_of_getElem? a
  have h2 := List.mem_of_getElem? b
  rw [List.mem_replicate] at h1 h2
  rw [h1.2, h2.2]; exact hp⟩
theorem if_op {r : L2.R2} {te tr : TE} {A B : TS} {D : Ends} {σ : L2.St} {H : Hp} (h : te σ H fun x H1 => tr σ H1 fun y H2 => r x y H2 fun v H3 => ∃ b, v = .bl b ∧ if b = true then A D σ H3 else B D σ H3) : tIfS (tTest (tOp r te tr)) A B D σ H := h
theorem g_ifop {i : Nat} {v : V} {r : L2.R2} {te tr : TE} {A B : TS} {D : Ends} {σ : L2.St} {H : Hp} (h : te (σ.set i (some v)) H fun x H1 => tr (σ.set i (some v)) H1 fun y H2 => r x y H2 fun w H3 => ∃ b, w = .bl b ∧ if b = true then A D (σ.set i (some v)) H3 else B D (σ.set i (some v)) H3) : gName i v σ H (tIfS (tTest (tOp r te tr)) A B D) := h
theorem g_unf {i : Nat} {v : V} {te : TE} {g : TG} {u : TS} {D : Ends} {σ : L2.St} {H : Hp} (h : te (σ.set i (some v)) H fun w H' => g w (σ.set i (some v)) H' (u D)) : gName i v σ H (tSeq (tAsg te g) u D) := h
theorem seq_unf {te : TE} {g : TG} {u : TS} {D : Ends} {σ : L2.St} {H : Hp} (h : te σ H fun w H' => g w σ H' (u D)) : tSeq (tAsg te g) u D σ H := h
theorem g_seq {i : Nat} {v : V} {s u : TS} {D : Ends} {σ : L2.St} {H : Hp} (h : s { D with nx := u D } (σ.set i (some v)) H) : gName i v σ H (tSeq s u D) := h
theorem seq_ifop {r : L2.R2} {te tr : TE} {A B u : TS} {D : Ends} {σ : L2.St} {H : Hp} (h : te σ H fun x H1 => tr σ H1 fun y H2 => r x y H2 fun v H3 => ∃ b, v = .bl b ∧ if b = true then A { D with nx := u D } σ H3 else B { D with nx := u D } σ H3) : tSeq (tIfS (tTest (tOp r te tr)) A B) u D σ H := h
theorem neD_rep {K : PySem.W.Frag} {H : Hp} {D D2 : Addr} {r : List V} {n : Nat} {Q : VK} (h : DL H D (List.replicate n r)) (h2 : DL H D2 (List.replicate n r)) (o : r.all okV = true) (sh : SeqAt.shaped (pdL (List.replicate n r)) = true) (e : PyData.eqv (pdL (List.replicate n r)) (pdL (List.replicate n r)) = true) (q : Q (.bl false) H) : rNeD K (.ref D) (.ref D2) H Q := by
  have o' : ((List.replicate n r).all fun r => r.all okV) = true := List.all_eq_true.mpr fun z hz => by rw [(List.mem_replicate.mp hz).2]; exact o
  refine neD_DL h h2 o' o' sh sh ?_
  rw [e]; exact q
theorem small1000 {n : Nat} (h : n ≤ 1000) : n < sizeLine := Nat.lt_of_le_of_lt h (by decide)
theorem te_any {te : TE} {σ : L2.St} {H : Hp} {Q : VK} (C : V → Hp → Prop) (h1 : ∀ Q7 : VK, (∀ v H, C v H → Q7 v H) → te σ H Q7) (h2 : ∀ v H, C v H → Q v H) : te σ H Q := h1 Q h2
theorem lst_one {te : TE} {σ : L2.St} {H : Hp} {Q : VK} (C : V → Hp → Prop) (h1 : ∀ Q7 : VK, (∀ v H, C v H → Q7 v H) → te σ H Q7) (h2 : ∀ v H, C v H → ∀ TL, H TL = none → Q (.ref TL) (upd H TL (.lst [v]))) : tLst (tCons te tNil) σ H Q := h1 _ fun v H c => ⟨by show 1 ≤ sizeLine; decide, fun TL n => h2 v H c TL n⟩
theorem app_one {K : PySem.W.Frag} {te : TE} {σ : L2.St} {H : Hp} {D : Ends} {j : Nat} {W : Addr} {xs : List V} (C : V → Hp → Prop) (hj : σ[j]? = some (some (.ref W))) (hl : H W = some (.lst xs)) (h1 : ∀ Q7 : VK, (∀ v H, C v H → Q7 v H) → te σ H Q7)
    (h2 : ∀ v H', C v H' → ∃ ys, H' W = some (.lst ys) ∧ ys.length ≤ 1000 ∧ D.nx σ (upd H' W (.lst (ys ++ [v])))) : tDrop (tBM K "list" rAppend (tVar j) (tCons te tNil)) D σ H :=
  ⟨_, hj, .inl ⟨rfl, _, SqL.of hl⟩, h1 _ fun v H' c => by
    obtain ⟨ys, e, l, q⟩ := h2 v H' c
    exact ⟨W, _, _, rfl, rfl, e, Nat.lt_of_le_of_lt l (by decide), q⟩⟩
theorem app_one' {K : PySem.W.Frag} {te : TE} {σ : L2.St} {H : Hp} {D : Ends} {u : TS} {j : Nat} {W : Addr} {xs : List V} (C : V → Hp → Prop) (hj : σ[j]? = some (some (.ref W))) (hl : H W = some (.lst xs)) (h1 : ∀ Q7 : VK, (∀ v H, C v H → Q7 v H) → te σ H Q7)
    (h2 : ∀ v H', C v H' → ∃ ys, H' W = some (.lst ys) ∧ ys.length ≤ 1000 ∧ u D σ (upd H' W (.lst (ys ++ [v])))) : tSeq (tDrop (tBM K "list" rAppend (tVar j) (tCons te tNil))) u D σ H :=
  app_one (D := { D with nx := u D }) C hj hl h1 h2
theorem seq_alike {te1 te2 : TE} {A u : TS} {D : Ends} {σ : L2.St} {H : Hp} (C1 : V → Hp → Prop) (C2 : V → V → Hp → Prop) (h1 : ∀ Q : VK, (∀ v H', C1 v H' → Q v H') → te1 σ H Q) (h2 : ∀ x H', C1 x H' → ∀ Q : VK, (∀ v H'', C2 x v H'' → Q v H'') → te2 σ H' Q)
    (h3 : ∀ x v H', C2 x v H' → R2 x v H' ∧ ∀ H'', Same H' H'' → u D σ H'') : tSeq (tIfS (tNot (tB (tCall (spAk R2) [] E0 (tCons te1 (tCons te2 tNil))))) A tNext) u D σ H :=
  h1 _ fun x H1 c1 => h2 x H1 c1 _ fun v H2 c2 => ⟨x, v, rfl, (h3 x v H2 c2).1, fun H3 s => ⟨_, rfl, ifF rfl ((h3 x v H2 c2).2 H3 s)⟩⟩
theorem alikeI {te1 te2 : TE} {σ : L2.St} {H : Hp} {k : Bool → Hp → Prop} (n : Int) (h1 : ∀ Q : VK, (∀ H', Same H H' → Q (.int n) H') → te1 σ H Q) (h2 : ∀ H', Same H H' → ∀ Q : VK, (∀ H'', Same H H'' → Q (.int n) H'') → te2 σ H' Q)
    (h3 : ∀ H', Same H H' → k false H') : tNot (tB (tCall (spAk R2) [] E0 (tCons te1 (tCons te2 tNil)))) σ H k :=
  h1 _ fun H1 s1 => h2 H1 s1 _ fun H2 s2 => ⟨_, _, rfl, .inl ⟨rfl, .inl ⟨_, rfl⟩⟩, fun H3 s3 => ⟨_, rfl, h3 H3 (s2.trans s3)⟩⟩
theorem tif_or {c1 c2 : TT} {A B : TS} {D : Ends} {σ : L2.St} {H : Hp} (h : c1 σ H fun b H1 => if b = true then (if true = true then A D σ H1 else B D σ H1) else c2 σ H1 fun b H2 => if b = true then A D σ H2 else B D σ H2) : tIfS (tOr c1 c2) A B D σ H := h
theorem tif_one {c : TT} {A B : TS} {D : Ends} {σ : L2.St} {H : Hp} (h : c σ H fun b H1 => if b = true then A D σ H1 else B D σ H1) : tIfS c A B D σ H := h
theorem seq_one {c : TT} {A u : TS} {D : Ends} {σ : L2.St} {H : Hp} (h : c σ H fun b H1 => if b = true then A { D with nx := u D } σ H1 else u D σ H1) : tSeq (tIfS c A tNext) u D σ H := h
theorem pow6 : (10 : Int) ^ (6 : Int).toNat = 1000000 := by decide
theorem CH.twice {cs : List Int} (c : CH cs) (l : cs.length ≤ 6) : CH ((cs ++ cs).take 6) ∧ ((cs ++ cs).take 6).length ≤ 6 := by
  have e : ((cs ++ cs).take 6).length = min 6 (cs.length + cs.length) := by rw [List.length_take, List.length_append]
  have := c.1
  refine ⟨⟨by omega, by omega, fun x hx => ?_⟩, by omega⟩
  rcases List.mem_append.mp (List.mem_of_mem_take hx) with h | h <;> exact c.2.2 x h
theorem bool_iff {b c : Bool} {p : Prop} (h : b = true ↔ p) (g : c = true ↔ p) : b = c := by
  cases b <;> cases c <;> simp_all
theorem lcm24 {m k : Nat} (h1 : 1 ≤ m) (h2 : 1 ≤ k) (a : m ≤ 6) (b : k ≤ 6) : Nat.lcm m k ≤ 60 := Nat.le_trans (Nat.lcm_le_mul (by omega) (by omega)) (Nat.le_trans (Nat.mul_le_mul a b) (by decide))
theorem at_mod2 (cs : List Int) (m : Nat) (c1 : 1 ≤ cs.length) : atI (cs.map V.int) ((m : Int) % (((cs.map V.int).length : Nat) : Int)) = some (V.int (Th.chAt cs m)) := by
  have := at_mod cs m c1
  rw [Int.zero_add] at this
  exact this
theorem tcons_any {te : TE} {tt : TA} {σ : L2.St} {H : Hp} {R : List V → Hp → Prop} (C : V → Hp → Prop) (h1 : ∀ Q7 : VK, (∀ v H, C v H → Q7 v H) → te σ H Q7) (h2 : ∀ v H', C v H' → tt σ H' fun vs H2 => R (v :: vs) H2) : tCons te tt σ H R := h1 _ h2
theorem ret_op {r : L2.R2} {te tr : TE} {D : Ends} {σ : L2.St} {H : Hp} (h : te σ H fun x H1 => tr σ H1 fun y H2 => r x y H2 D.rt) : tRet (tOp r te tr) D σ H := h
theorem or_step {c1 c2 : TT} {σ : L2.St} {H : Hp} {Q : Bool → Hp → Prop} (h : c1 σ H fun b H1 => if b = true then Q true H1 else c2 σ H1 Q) : tOr c1 c2 σ H Q := h
theorem not_alike {te1 te2 : TE} {σ : L2.St} {H : Hp} {k : Bool → Hp → Prop} (C1 : V → Hp → Prop) (C2 : V → V → Hp → Prop) (h1 : ∀ Q : VK, (∀ v H', C1 v H' → Q v H') → te1 σ H Q) (h2 : ∀ x H', C1 x H' → ∀ Q : VK, (∀ v H'', C2 x v H'' → Q v H'') → te2 σ H' Q)
    (h3 : ∀ x v H', C2 x v H' → R2 x v H' ∧ ∀ H'', Same H' H'' → k false H'') : tNot (tB (tCall (spAk R2) [] E0 (tCons te1 (tCons te2 tNil)))) σ H k :=
  h1 _ fun x H1 c1 => h2 x H1 c1 _ fun v H2 c2 => ⟨x, v, rfl, (h3 x v H2 c2).1, fun H3 s => ⟨_, rfl, (h3 x v H2 c2).2 H3 s⟩⟩
theorem r2_ints {H : Hp} {p q : Addr} {ns : List Int} (l : ns.length ≤ 1000000) (hp : H p = some (.tup (ns.map V.int))) (hq : H q = some (.tup (ns.map V.int))) : R2 (.ref p) (.ref q) H :=
  .inr ⟨p, q, _, _, rfl, rfl, ⟨rfl, by rw [List.length_map]; exact l, fun i u v hu hv => by
    rw [hu] at hv
    cases hv
    rw [List.getElem?_map] at hu
    cases e : ns[i]? with
    | none => rw [e] at hu; cases hu
    | some n => rw [e] at hu; cases hu; exact .inl ⟨rfl, .inl ⟨n, rfl⟩⟩⟩, .inr ⟨hp, hq⟩⟩
theorem sameExt {H H' : Hp} (s : Same H H') : ExtN H H' := fun b o e _ => s b o e
end W6

namespace W6
open PySem PySem.Spec PyProof.Rows L2 Ru StX
section
variable {P : Program} {w : World} {K : PySem.W.Frag} {mg : Str → Option Value} {base : Heap} {a : Ad}
theorem ok_heater_state (T : Txt K mg a) : FnOk P w K mg base CX0 1 a.f_heater_state a.d_heater_state ["degrees", "low", "high", "before"] spHst := by
  refine T.F_heater_state.ok sc_heater_state (fun vs H Q E h => ?_) (fun cdv A outer s H vs Q E hr h => ?_)
  · obtain ⟨d, lo, hi, b, rfl, _⟩ := h
    rfl
  · obtain ⟨d, lo, hi, b, rfl, k⟩ := h
    refine ⟨_, (pss_cons (ps_if (pt_cmpR op_lt (pv 0) (pv 1) (nomark _)) (pss_one (ps_ret pe_bl)) pss_nil)
      (pss_cons (ps_if (pt_cmpR op_gt (pv 0) (pv 2) (nomark _)) (pss_one (ps_ret pe_bl)) pss_nil)
      (pss_one (ps_ret (pv 3))))), ?_⟩
    unfold Th.hst at k
    refine ⟨_, rfl, _, rfl, _, _, rfl, rfl, _, rfl, ?_⟩
    by_cases c : d < lo
    · rw [if_pos c] at k
      exact ifT (dT c) k
    · rw [if_neg c] at k
      refine ifF (dF c) ⟨_, rfl, _, rfl, _, _, rfl, rfl, _, rfl, ?_⟩
      by_cases c2 : d > hi
      · rw [if_pos c2] at k
        exact ifT (dT c2) k
      · rw [if_neg c2] at k
        exact ifF (dF c2) ⟨_, rfl, k⟩
theorem ok_Weather_changes (T : Txt K mg a) : FnOk P w K mg base CX0 1 a.f_Weather_changes a.d_Weather_changes ["self"] (getSp a.c_Weather "_changes") := by
  refine T.F_Weather_changes.ok sc_Weather_changes (fun vs H Q E h => ?_) (fun cdv A outer s H vs Q E hr h => ?_)
  · obtain ⟨z, dx, fs, v, e, _⟩ := h
    rw [e]; rfl
  · obtain ⟨z, dx, fs, v, rfl, hz, l, q⟩ := h
    exact ⟨_, (pss_one (ps_ret (pe_fld (pv 0) rfl))), ⟨_, rfl, z, _, dx, fs, v, rfl, hz, T.cl_Weather, T.na_Weather__changes, l, q⟩⟩
end
end W6

namespace W6
open PySem PySem.Spec PyProof.Rows L2 Ru StX LamX
def mulL (cs : List Int) (n : Int) : List Int := cs.map fun c => c * n
/-- what the written part says of the class of weathers by its operators -/
structure WMu (K : PySem.W.Frag) (a : Ad) : Prop where
  hm : mroHd K a.c_Weather = true
  mul : MulC K a.c_Weather a.f_Weather_mul
section
variable (a : Ad)
def spWlen : Sp := fun vs H Q _ => ∃ (z : Addr) (cs : List Int), vs = [.ref z] ∧ WAt a H z cs ∧ Q (.int (cs.length : Nat)) H
def spAddN : Sp := fun vs H Q _ => ∃ (y z : Addr) (cs ds : List Int), vs = [.ref y, .ref z] ∧ WAt a H y cs ∧ WAt a H z ds ∧ CH cs ∧ CH ds ∧ CH (addR cs ds) ∧ ∀ v H', Same H H' → WAt a H' v (addR cs ds) → Q (.ref v) H'
def spMulN : Sp := fun vs H Q _ => ∃ (z : Addr) (cs : List Int) (n : Int), vs = [.ref z, .int n] ∧ WAt a H z cs ∧ CH cs ∧ CH (mulL cs n) ∧ ∀ v H', Same H H' → WAt a H' v (mulL cs n) → Q (.ref v) H'
/-- one tick's change is 1 -/
def unitL (n k : Nat) : List Int := (List.range n).map fun j => if j = k then 1 else 0
def spSingle : Sp := fun vs H Q _ => ∃ (n k : Nat), vs = [.int n, .int k] ∧ 1 ≤ n ∧ n ≤ 5 ∧ k < n ∧ ∀ z H', Same H H' → WAt a H' z (unitL n k) → Q (.ref z) H'
def spWthr : Sp := fun vs H Q _ => ∃ (l : Addr) (cs : List Int), vs = [.ref l] ∧ H l = some (.lst (cs.map V.int)) ∧ CH cs ∧ cs.length ≤ 5 ∧ ∀ z H', Same H H' → WAt a H' z cs → Q (.ref z) H'
end
theorem intAt {cs : List Int} {j : Nat} {v : V} (h : (cs.map V.int)[j]? = some v) : ∃ c, cs[j]? = some c ∧ v = .int c := by
  rw [List.getElem?_map] at h
  cases e : cs[j]? with
  | none => rw [e] at h; cases h
  | some c => rw [e] at h; exact ⟨c, rfl, (Option.some.inj h).symm⟩
/-! lists of changes, one after another -/
theorem unitL_len (n k : Nat) : (unitL n k).length = n := by rw [unitL, List.length_map, List.length_range]
theorem ch_of {n : Nat} {f : Nat → Int} (h1 : 1 ≤ n) (h2 : n ≤ 24) (h : ∀ j, j < n → -100 ≤ f j ∧ f j ≤ 100) : CH ((List.range n).map f) :=
  ⟨by rw [List.length_map, List.length_range]; exact h1, by rw [List.length_map, List.length_range]; exact h2, fun c hc => by
    obtain ⟨j, hj, rfl⟩ := List.mem_map.mp hc
    exact h j (List.mem_range.mp hj)⟩
theorem unit_mul (n k : Nat) (c : Int) : mulL (unitL n k) c = (List.range n).map fun j => if j = k then c else 0 := by
  unfold mulL unitL
  rw [List.map_map]
  refine List.map_congr_left fun j _ => ?_
  show (if j = k then (1 : Int) else 0) * c = _
  split <;> simp
/-- the changes before the k-th -/
def partL (cs : List Int) (k : Nat) : List Int := (List.range cs.length).map fun j => if j < k then cs.getD j 0 else 0
theorem partL_len (cs : List Int) (k : Nat) : (partL cs k).length = cs.length := by rw [partL, List.length_map, List.length_range]
theorem partL_all (cs : List Int) : partL cs cs.length = cs := by
  refine List.ext_getElem (partL_len cs _) fun i h1 h2 => ?_
  simp [partL, h2]
/-- what the sum is before the k-th -/
def Sofar (cs : List Int) (k : Nat) (ds : List Int) : Prop := (ds = [0] ∧ ∀ j, j < k → cs.getD j 0 = 0) ∨ ds = partL cs k
theorem Sofar.at {cs ds : List Int} {k : Nat} (h : Sofar cs k ds) (hn : 1 ≤ cs.length) {t : Nat} (ht : t < cs.length) : ds.getD (t % ds.length) 0 = if t < k then cs.getD t 0 else 0 := by
  rcases h with ⟨rfl, z⟩ | rfl
  · have : t % ([0] : List Int).length = 0 := Nat.mod_one t
    rw [this]
    by_cases q : t < k
    · rw [if_pos q, z t q]; rfl
    · rw [if_neg q]; rfl
  · rw [partL_len, Nat.mod_eq_of_lt ht]
    simp [partL, ht]
theorem Sofar.len {cs ds : List Int} {k : Nat} (h : Sofar cs k ds) (hn : 1 ≤ cs.length) : 1 ≤ ds.length ∧ Nat.lcm ds.length cs.length = cs.length := by
  rcases h with ⟨rfl, z⟩ | rfl
  · exact ⟨by decide, Nat.lcm_one_left _⟩
  · rw [partL_len]
    exact ⟨hn, Nat.lcm_self _⟩
theorem Sofar.ch {cs ds : List Int} {k : Nat} (h : Sofar cs k ds) (c : CH cs) : CH ds := by
  rcases h with ⟨rfl, z⟩ | rfl
  · exact ⟨by decide, by decide, fun c hc => by obtain rfl := List.mem_singleton.mp hc; decide⟩
  · refine ch_of c.1 c.2.1 fun j hj => ?_
    split
    · refine c.2.2 _ ?_
      rw [List.getD_eq_getElem?_getD, List.getElem?_eq_getElem hj]
      exact List.getElem_mem hj
    · decide
theorem Sofar.skip {cs ds : List Int} {k : Nat} (h : Sofar cs k ds) (z : cs.getD k 0 = 0) : Sofar cs (k + 1) ds := by
  rcases h with ⟨rfl, a⟩ | rfl
  · refine .inl ⟨rfl, fun j hj => ?_⟩
    by_cases q : j < k
    · exact a j q
    · rw [show j = k by omega]; exact z
  · refine .inr ?_
    unfold partL
    refine List.map_congr_left fun j _ => ?_
    by_cases q : j < k
    · rw [if_pos q, if_pos (by omega)]
    · rw [if_neg q]
      by_cases q2 : j = k
      · subst q2; rw [if_pos (by omega), z]
      · rw [if_neg (by omega)]
theorem Sofar.add {cs ds : List Int} {k : Nat} (h : Sofar cs k ds) (hn : 1 ≤ cs.length) (c : Int) : addR ds (mulL (unitL cs.length k) c) = (List.range cs.length).map fun j => (if j < k then cs.getD j 0 else 0) + (if j = k then c else 0) := by
  obtain ⟨_, l⟩ := h.len hn
  rw [unit_mul]
  unfold addR
  rw [List.length_map, List.length_range, l]
  refine List.map_congr_left fun j hj => ?_
  have hj := List.mem_range.mp hj
  rw [h.at hn hj, Nat.mod_eq_of_lt hj]
  simp [hj]
theorem Sofar.next {cs ds : List Int} {k : Nat} (h : Sofar cs k ds) (hn : 1 ≤ cs.length) : addR ds (mulL (unitL cs.length k) (cs.getD k 0)) = partL cs (k + 1) := by
  rw [h.add hn]
  unfold partL
  refine List.map_congr_left fun j _ => ?_
  by_cases q : j < k
  · rw [if_pos q, if_neg (by omega), if_pos (by omega)]; simp
  · by_cases q2 : j = k
    · subst q2; rw [if_neg q, if_pos rfl, if_pos (by omega)]; simp
    · rw [if_neg q, if_neg q2, if_neg (by omega)]; rfl
theorem Sofar.end' {cs ds : List Int} (h : Sofar cs cs.length ds) (l : ds.length = cs.length) : ds = cs := by
  rcases h with ⟨rfl, z⟩ | rfl
  · match cs, l, z with
    | [c], _, z =>
      have := z 0 (by show 0 < 1; decide)
      have e : c = 0 := this
      rw [e]
  · exact partL_all cs
theorem Sofar.last {cs ds : List Int} (h : Sofar cs cs.length ds) (hn : 1 ≤ cs.length) : addR ds (mulL (unitL cs.length 0) 0) = cs := by
  refine Eq.trans ?_ (partL_all cs)
  unfold partL
  rw [unit_mul]
  unfold addR
  obtain ⟨_, l⟩ := h.len hn
  rw [List.length_map, List.length_range, l]
  refine List.map_congr_left fun j hj => ?_
  have hj := List.mem_range.mp hj
  rw [h.at hn hj, Nat.mod_eq_of_lt hj]
  simp [hj]
theorem weather_in {a : Ad} {H : Hp} {x dx : Addr} {R : VK} {E : XK} {cs : List Int} (c : CH cs) (nx : H x = none) (nd : H dx = none) (ne : dx ≠ x) (k : ∀ H', Same H H' → WAt a H' x cs → R .non H') : spWs a (V.ref x :: cs.map V.int) (upd (upd H dx (.own x)) x (.ins a.c_Weather dx [])) R E := by
  refine ⟨[.ref x], cs.map V.int, rfl, rfl, by rw [List.length_map]; exact Nat.le_of_lt (small1000 (by have := c.2.1; omega)), fun p hp => ?_⟩
  have npx : x ≠ p := ne_of_none upd_same hp
  have s1 := same_upd (o := .tup (cs.map V.int)) hp
  exact ⟨x, dx, p, cs, rfl, s1 _ _ upd_same, upd_same, c, fun H' fr wt => k H' (Fr1.made nx nd ((Fr1.of s1).trans fr)) wt⟩
section
variable {P : Program} {w : World} {K : PySem.W.Frag} {mg : Str → Option Value} {base : Heap} {a : Ad}
theorem ok_Weather_len (T : Txt K mg a) : FnOk P w K mg base CX0 1 a.f_Weather_len a.d_Weather_len ["self"] (spWlen a) := by
  refine T.F_Weather_len.ok sc_Weather_len (fun vs H Q E h => ?_) (fun cdv A outer s H vs Q E hr h => ?_)
  · obtain ⟨z, cs, rfl, _⟩ := h
    rfl
  · obtain ⟨z, cs, rfl, ⟨dx, t, hz, ht⟩, k⟩ := h
    refine ⟨_, (pss_one (ps_ret (pe_callB call_len_seq (by rfl) T.z_len PySem.boot_len (pa_cons (pe_fld (pv 0) rfl) pa_nil)))), ?_⟩
    refine ⟨_, rfl, z, _, dx, _, _, rfl, hz, T.cl_Weather, T.na_Weather__changes, rfl, t, _, rfl, .inr (SqT.of ht), ?_⟩
    rw [List.length_map]
    exact k
theorem ok_Weather_add (T : Txt K mg a) : FnOk P w K mg base CX0 4 a.f_Weather_add a.d_Weather_add ["self", "other"] (spAddN a) := by
  have G_Weather_init : FnR P w K mg base CX0 2 a.f_Weather_init (spWs a) := ok_Weather_init T
  have G_added_rounds : FnOk P w K mg base CX0 1 a.f_added_rounds a.d_added_rounds ["one", "other"] spAddR := ok_added_rounds T
  have G_Weather_changes : FnOk P w K mg base CX0 1 a.f_Weather_changes a.d_Weather_changes ["self"] (getSp a.c_Weather "_changes") := ok_Weather_changes T
  refine T.F_Weather_add.ok sc_Weather_add (fun vs H Q E h => ?_) (fun cdv A outer s H vs Q E hr h => ?_)
  · obtain ⟨y, z, cs, ds, rfl, _⟩ := h
    rfl
  · obtain ⟨y, z, cs, ds, rfl, ⟨dy, t, hy, ht⟩, ⟨dz, u, hz, hu⟩, c, d, cc, k⟩ := h
    refine ⟨_, (pss_cons (ps_set (i := 2) sc_Weather_add.nd rfl (Or.inl rfl) (pe_call G_added_rounds (hr.mono (by decide)) (by rfl) T.mg_added_rounds T.F_added_rounds.kp (b_added_rounds T) .nil pass0 (pa_cons (pe_fld (pv 0) rfl) (pa_cons (pe_prop (pv 1) T.cl_Weather T.pr_Weather_changes G_Weather_changes (hr.mono (by decide)) (b_Weather_changes T) .nil pass0 rfl) pa_nil))))
      (pss_one (ps_ret (pe_makeSt T.mk_Weather G_Weather_init (hr.mono (by decide)) (by rfl) T.mg_Weather pass0 (pv 2))))), ?_⟩
    refine ⟨_, rfl, y, _, dy, _, _, rfl, hy, T.cl_Weather, T.na_Weather__changes, rfl, _, rfl, z, dz, _, rfl, hz, z, dz, _, _, rfl, hz, rfl, t, u, cs, ds, rfl, ht, hu, c.1, c.2.1, d.1, d.2.1, fun p H' sm hp => ?_⟩
    exact ⟨_, rfl, p, _, rfl, .inr (SqL.of hp), weather_made cc fun v H2 s2 wt => k v H2 (sm.trans s2) wt⟩
theorem ok_Weather_mul (T : Txt K mg a) : FnOk P w K mg base CX0 4 a.f_Weather_mul a.d_Weather_mul ["self", "times"] (spMulN a) := by
  have G_Weather_init : FnR P w K mg base CX0 2 a.f_Weather_init (spWs a) := ok_Weather_init T
  refine T.F_Weather_mul.ok sc_Weather_mul (fun vs H Q E h => ?_) (fun cdv A outer s H vs Q E hr h => ?_)
  · obtain ⟨z, cs, n, rfl, _⟩ := h
    rfl
  · obtain ⟨z, cs, n, rfl, ⟨dz, t, hz, ht⟩, cc, cm, k⟩ := h
    refine ⟨_, (pss_cons (ps_setLc (i := 2) (own := [("change", 3)]) (g := gName 3) rfl sc_Weather_mul.nd rfl rfl (sw_true rfl rfl rfl (by decide +kernel)) (pi_tup (pe_fld (pv 0) rfl)) (blkOk_by (own := [("change", 3)]) (N := ["self", "times", "multiplied", "change"]) (sc := (defScope s_Weather_mul)) (by decide +kernel)) (fun _ _ _ _ _ => pg_name (i := 3) sc_Weather_mul.nd rfl (Or.inl rfl)) (fun _ _ _ _ _ => pts_nil) (fun _ _ _ _ _ => (pe_op op_mul (pv 3) (pv 1))))
      (pss_one (ps_ret (pe_makeSt T.mk_Weather G_Weather_init (hr.mono (by decide)) (by rfl) T.mg_Weather pass0 (pv 2))))), ?_⟩
    refine ⟨_, rfl, z, _, dz, _, _, rfl, hz, T.cl_Weather, T.na_Weather__changes, rfl, t, rfl, ⟨_, SqT.of ht⟩, fun D nD => lc_tup (K := K) (a := t) (xs := cs.map V.int) (fun i H2 => Same H H2 ∧ H2 D = some (.lst (((cs.take i).map fun c => c * n).map V.int))) ⟨same_upd nD, upd_same⟩ (fun j H2 _ q => SqT.of (q.1 _ _ ht)) ?_ ?_⟩
    · rintro j v H2 hx ⟨s2, hD⟩
      obtain ⟨c, hc, rfl⟩ := intAt hx
      refine ⟨rfl, _, rfl, _, rfl, _, _, rfl, rfl, (.inl (by have := cc.2.2 c (List.mem_of_getElem? hc); constructor <;> omega)), _, hD, by rw [List.length_map, List.length_map]; exact Nat.lt_of_le_of_lt (Nat.le_trans (List.length_take_le' _ _) (Nat.le_trans cc.2.1 (by decide : 24 ≤ 1000))) (by decide), fun b u e => by rw [upd_ne (ne_of_none e nD)]; exact s2 _ _ e, ?_⟩
      rw [upd_same, List.take_succ, hc]
      simp
    · rintro H2 ⟨s2, hD⟩
      rw [List.length_map, List.take_length] at hD
      exact ⟨_, rfl, D, _, rfl, .inr (SqL.of hD), weather_made (cs := mulL cs n) cm fun v H3 s3 wt => k v H3 (s2.trans s3) wt⟩
theorem ok__law_single (T : Txt K mg a) : FnOk P w K mg base CX0 4 a.f__law_single a.d__law_single ["_law_size", "_law_at"] (spSingle a) := by
  have G_Weather_init : FnR P w K mg base CX0 2 a.f_Weather_init (spWs a) := ok_Weather_init T
  refine T.F__law_single.ok sc__law_single (fun vs H Q E h => ?_) (fun cdv A outer s H vs Q E hr h => ?_)
  · obtain ⟨n, k, rfl, _⟩ := h
    rfl
  · obtain ⟨n, k, rfl, n1, n5, kn, g⟩ := h
    refine ⟨_, (pss_cons (ps_setLc (i := 2) (own := [("_law_k", 3)]) (g := gName 3) rfl sc__law_single.nd rfl rfl (sw_true rfl rfl rfl (by decide +kernel)) (pi_range1 (by rfl) T.z_range (pa_cons (pv 0) pa_nil)) (blkOk_by (own := [("_law_k", 3)]) (N := ["_law_size", "_law_at", "_law_parts_here", "_law_k"]) (sc := (defScope s__law_single)) (by decide +kernel)) (fun _ _ _ _ _ => pg_name (i := 3) sc__law_single.nd rfl (Or.inl rfl)) (fun _ _ _ _ _ => pts_nil) (fun _ _ _ _ _ => (pe_callTy call_int1 (by rfl) T.z_int (by decide +kernel) (pa_cons (pe_cmpR op_eq (pv 3) (pv 1) (nomark _)) pa_nil))))
      (pss_cons (ps_if (pt_cmpR op_eq (pv 0) pe_int (nomark _)) (pss_one (ps_ret (pe_makeR T.mk_Weather G_Weather_init (hr.mono (by decide)) (by rfl) T.mg_Weather pass0 (pa_cons (pe_ix ix_list (pv 2) pe_int (fun _ _ => rfl)) pa_nil)))) pss_nil)
      (pss_cons (ps_if (pt_cmpR op_eq (pv 0) pe_int (nomark _)) (pss_one (ps_ret (pe_makeR T.mk_Weather G_Weather_init (hr.mono (by decide)) (by rfl) T.mg_Weather pass0 (pa_cons (pe_ix ix_list (pv 2) pe_int (fun _ _ => rfl)) (pa_cons (pe_ix ix_list (pv 2) pe_int (fun _ _ => rfl)) pa_nil))))) pss_nil)
      (pss_cons (ps_if (pt_cmpR op_eq (pv 0) pe_int (nomark _)) (pss_one (ps_ret (pe_makeR T.mk_Weather G_Weather_init (hr.mono (by decide)) (by rfl) T.mg_Weather pass0 (pa_cons (pe_ix ix_list (pv 2) pe_int (fun _ _ => rfl)) (pa_cons (pe_ix ix_list (pv 2) pe_int (fun _ _ => rfl)) (pa_cons (pe_ix ix_list (pv 2) pe_int (fun _ _ => rfl)) pa_nil)))))) pss_nil)
      (pss_cons (ps_if (pt_cmpR op_eq (pv 0) pe_int (nomark _)) (pss_one (ps_ret (pe_makeR T.mk_Weather G_Weather_init (hr.mono (by decide)) (by rfl) T.mg_Weather pass0 (pa_cons (pe_ix ix_list (pv 2) pe_int (fun _ _ => rfl)) (pa_cons (pe_ix ix_list (pv 2) pe_int (fun _ _ => rfl)) (pa_cons (pe_ix ix_list (pv 2) pe_int (fun _ _ => rfl)) (pa_cons (pe_ix ix_list (pv 2) pe_int (fun _ _ => rfl)) pa_nil))))))) pss_nil)
      (pss_one (ps_ret (pe_makeR T.mk_Weather G_Weather_init (hr.mono (by decide)) (by rfl) T.mg_Weather pass0 (pa_cons (pe_ix ix_list (pv 2) pe_int (fun _ _ => rfl)) (pa_cons (pe_ix ix_list (pv 2) pe_int (fun _ _ => rfl)) (pa_cons (pe_ix ix_list (pv 2) pe_int (fun _ _ => rfl)) (pa_cons (pe_ix ix_list (pv 2) pe_int (fun _ _ => rfl)) (pa_cons (pe_ix ix_list (pv 2) pe_int (fun _ _ => rfl)) pa_nil))))))))))))), ?_⟩
    refine ⟨_, rfl, ((n : Nat) : Int), rfl, by omega, by omega, fun D nD => lc_range (lo := 0) (n := ((n : Nat) : Int).toNat) (fun i H' => Same H H' ∧ H' D = some (.lst (((List.range i).map fun j => if j = k then (1 : Int) else 0).map V.int))) ⟨same_upd nD, upd_same⟩ ?_ ?_⟩
    · rintro i H' hi ⟨s1, hD⟩
      have hi : i < n := by omega
      refine ⟨rfl, _, rfl, _, rfl, rfl, .inr ⟨_, rfl, _, hD, by rw [List.length_map, List.length_map, List.length_range]; exact small1000 (by omega), lcStep' nD s1, ?_⟩⟩
      rw [upd_same, List.range_succ, List.map_append, List.map_append]
      have e : decide (V.int (0 + (i : Int)) = V.int (k : Int)) = decide (i = k) := by
        by_cases q : i = k
        · rw [decide_eq_true q, decide_eq_true (by rw [q, Int.zero_add])]
        · rw [decide_eq_false q, decide_eq_false (fun z => by injection z with z; omega)]
      rw [e]
      by_cases q : i = k
      · subst q; simp
      · rw [decide_eq_false q]; simp [q]
    · rintro H1 ⟨s1, hD⟩
      have hD : H1 D = some (.lst ((unitL n k).map V.int)) := hD
      have ul := unitL_len n k
      have cu : CH (unitL n k) := ch_of n1 (by omega) fun j _ => by split <;> decide
      have kk : ∀ z H', Same H1 H' → WAt a H' z (unitL n k) → Q (.ref z) H' := fun z H' s wt => g z H' (s1.trans s) wt
      generalize unitL n k = us at *
      match us, n, ul, n5 with
      | [], n, ul, _ => exact absurd cu.1 (by decide)
      | [u], _, rfl, _ =>
        refine ⟨_, rfl, rfl, _, rfl, ifT rfl ?_⟩
        exact ⟨_, rfl, D, _, _, _, rfl, rfl, SqL.of hD, rfl, weather_made (cs := [u]) cu kk⟩
      | [u, v], _, rfl, _ =>
        refine ⟨_, rfl, rfl, _, rfl, ifF rfl ?_⟩
        refine ⟨_, rfl, rfl, _, rfl, ifT rfl ?_⟩
        exact ⟨_, rfl, D, _, _, _, rfl, rfl, SqL.of hD, rfl, _, rfl, D, _, _, _, rfl, rfl, SqL.of hD, rfl, weather_made (cs := [u, v]) cu kk⟩
      | [u, v, x], _, rfl, _ =>
        refine ⟨_, rfl, rfl, _, rfl, ifF rfl ?_⟩
        refine ⟨_, rfl, rfl, _, rfl, ifF rfl ?_⟩
        refine ⟨_, rfl, rfl, _, rfl, ifT rfl ?_⟩
        exact ⟨_, rfl, D, _, _, _, rfl, rfl, SqL.of hD, rfl, _, rfl, D, _, _, _, rfl, rfl, SqL.of hD, rfl, _, rfl, D, _, _, _, rfl, rfl, SqL.of hD, rfl, weather_made (cs := [u, v, x]) cu kk⟩
      | [u, v, x, y], _, rfl, _ =>
        refine ⟨_, rfl, rfl, _, rfl, ifF rfl ?_⟩
        refine ⟨_, rfl, rfl, _, rfl, ifF rfl ?_⟩
        refine ⟨_, rfl, rfl, _, rfl, ifF rfl ?_⟩
        refine ⟨_, rfl, rfl, _, rfl, ifT rfl ?_⟩
        exact ⟨_, rfl, D, _, _, _, rfl, rfl, SqL.of hD, rfl, _, rfl, D, _, _, _, rfl, rfl, SqL.of hD, rfl, _, rfl, D, _, _, _, rfl, rfl, SqL.of hD, rfl, _, rfl, D, _, _, _, rfl, rfl, SqL.of hD, rfl, weather_made (cs := [u, v, x, y]) cu kk⟩
      | [u, v, x, y, m], _, rfl, _ =>
        refine ⟨_, rfl, rfl, _, rfl, ifF rfl ?_⟩
        refine ⟨_, rfl, rfl, _, rfl, ifF rfl ?_⟩
        refine ⟨_, rfl, rfl, _, rfl, ifF rfl ?_⟩
        refine ⟨_, rfl, rfl, _, rfl, ifF rfl ?_⟩
        exact ⟨_, rfl, D, _, _, _, rfl, rfl, SqL.of hD, rfl, _, rfl, D, _, _, _, rfl, rfl, SqL.of hD, rfl, _, rfl, D, _, _, _, rfl, rfl, SqL.of hD, rfl, _, rfl, D, _, _, _, rfl, rfl, SqL.of hD, rfl, _, rfl, D, _, _, _, rfl, rfl, SqL.of hD, rfl, weather_made (cs := [u, v, x, y, m]) cu kk⟩
      | u :: v :: x :: y :: m :: o :: r, n, ul, n5 => simp at ul; omega
theorem ok__law_weather (T : Txt K mg a) (WM : WMu K a) : FnOk P w K mg base CX0 5 a.f__law_weather a.d__law_weather ["_law_changes_here"] (spWthr a) := by
  have G_Weather_init : FnR P w K mg base CX0 2 a.f_Weather_init (spWs a) := ok_Weather_init T
  have G_Weather_len : FnOk P w K mg base CX0 1 a.f_Weather_len a.d_Weather_len ["self"] (spWlen a) := ok_Weather_len T
  have G_Weather_add : FnOk P w K mg base CX0 4 a.f_Weather_add a.d_Weather_add ["self", "other"] (spAddN a) := ok_Weather_add T
  have G_Weather_mul : FnOk P w K mg base CX0 4 a.f_Weather_mul a.d_Weather_mul ["self", "times"] (spMulN a) := ok_Weather_mul T
  have G__law_single : FnOk P w K mg base CX0 4 a.f__law_single a.d__law_single ["_law_size", "_law_at"] (spSingle a) := ok__law_single T
  refine T.F__law_weather.ok sc__law_weather (fun vs H Q E h => ?_) (fun cdv A outer s H vs Q E hr h => ?_)
  · obtain ⟨l, cs, rfl, _⟩ := h
    rfl
  · obtain ⟨l, cs, rfl, hl, c, c5, k⟩ := h
    refine ⟨_, (pss_cons (ps_set (i := 1) sc__law_weather.nd rfl (Or.inl rfl) (pe_makeR T.mk_Weather G_Weather_init (hr.mono (by decide)) (by rfl) T.mg_Weather pass0 (pa_cons pe_int pa_nil)))
      (pss_cons (ps_for PassesOwn.never rfl (pi_range1 (by rfl) T.z_range (pa_cons (pe_callB call_len_seq (by rfl) T.z_len PySem.boot_len (pa_cons (pv 0) pa_nil)) pa_nil)) (pg_name (i := 2) sc__law_weather.nd rfl (Or.inl rfl))
        (pss_one (ps_if (pt_cmpR op_ne (pe_ix ix_list (pv 0) (pv 2) (fun _ _ => rfl)) pe_int (nomark _)) (pss_one (ps_set (i := 1) sc__law_weather.nd rfl (Or.inl rfl) (pe_op (op_ownAdd WM.hm T.me_Weather_add G_Weather_add (b_Weather_add T) (hr.mono (by decide)) pass0) (pv 1) (pe_op (op_ownMul WM.mul G_Weather_mul (b_Weather_mul T) (hr.mono (by decide)) pass0) (pe_call G__law_single (hr.mono (by decide)) (by rfl) T.mg__law_single T.F__law_single.kp (b__law_single T) .nil pass0 (pa_cons (pe_callB call_len_seq (by rfl) T.z_len PySem.boot_len (pa_cons (pv 0) pa_nil)) (pa_cons (pv 2) pa_nil))) (pe_ix ix_list (pv 0) (pv 2) (fun _ _ => rfl)))))) pss_nil)))
      (pss_one (ps_ret (pe_ifExp (pt_cmpR op_eq (pe_callB (call_lenOwn T.me_Weather_len G_Weather_len (b_Weather_len T) (hr.mono (by decide)) pass0) (by rfl) T.z_len PySem.boot_len (pa_cons (pv 1) pa_nil)) (pe_callB call_len_seq (by rfl) T.z_len PySem.boot_len (pa_cons (pv 0) pa_nil)) (nomark _)) (pv 1) (pe_op (op_ownAdd WM.hm T.me_Weather_add G_Weather_add (b_Weather_add T) (hr.mono (by decide)) pass0) (pv 1) (pe_op (op_ownMul WM.mul G_Weather_mul (b_Weather_mul T) (hr.mono (by decide)) pass0) (pe_call G__law_single (hr.mono (by decide)) (by rfl) T.mg__law_single T.F__law_single.kp (b__law_single T) .nil pass0 (pa_cons (pe_callB call_len_seq (by rfl) T.z_len PySem.boot_len (pa_cons (pv 0) pa_nil)) (pa_cons pe_int pa_nil))) pe_int))))))), ?_⟩
    have n1 : (cs.map V.int).length = cs.length := List.length_map _
    have c1 := c.1
    refine fun z0 dz0 nz0 ndz0 ez0 => weather_in (cs := [0]) ⟨by decide, by decide, fun c hc => by obtain rfl := List.mem_singleton.mp hc; decide⟩ nz0 ndz0 ez0 fun H1 s1 w1 => ⟨rfl, ?_⟩
    refine ⟨_, rfl, l, _, rfl, .inl (SqL.of (s1 _ _ hl)), ((cs.length : Nat) : Int), by rw [n1], by omega, by omega, for_range (lo := 0) (n := ((cs.length : Nat) : Int).toNat) (fun i σ H' => ∃ z ds u, σ = [some (.ref l), some (.ref z), u] ∧ Same H H' ∧ WAt a H' z ds ∧ Sofar cs i ds) ⟨z0, [0], none, rfl, s1, w1, .inl ⟨rfl, fun j hj => absurd hj (Nat.not_lt_zero _)⟩⟩ ?_ ?_⟩
    · rintro i σ H2 hi ⟨z, ds, u, rfl, s2, w2, sf⟩
      have hi : i < cs.length := by omega
      have hl2 := s2 _ _ hl
      have e0 : (0 : Int) + (i : Int) = (i : Int) := Int.zero_add _
      have hc : cs[i]? = some (cs.getD i 0) := by rw [List.getD_eq_getElem?_getD, List.getElem?_eq_getElem hi]; rfl
      have hat : atI (cs.map V.int) (0 + (i : Int)) = some (.int (cs.getD i 0)) := by rw [e0]; exact atI_nat (by rw [List.getElem?_map, hc]; rfl)
      have hb := c.2.2 _ (List.mem_of_getElem? hc)
      have sk := sf.skip
      have nx := sf.next c1
      generalize cs.getD i 0 = ci at hat hb sk nx
      refine ⟨_, rfl, _, rfl, l, _, _, _, rfl, rfl, SqL.of hl2, hat, rfl, _, rfl, ?_⟩
      by_cases z0 : ci = 0
      · refine ifF (ndF (by rw [z0])) ?_
        exact ⟨z, ds, _, rfl, s2, w2, sk z0⟩
      · refine ifT (by rw [dF (fun q => z0 (by injection q))]; rfl) ?_
        obtain ⟨dz, tz, hz, htz⟩ := id w2
        refine ⟨_, rfl, _, rfl, l, _, rfl, .inl (SqL.of hl2), _, rfl, cs.length, i, by rw [n1, e0]; rfl, c1, c5, hi, fun y H3 s3 w3 => ?_⟩
        obtain ⟨dy, ty, hy, hty⟩ := id w3
        have cu : CH (unitL cs.length i) := ch_of c1 (by omega) fun j _ => by split <;> decide
        have cm : CH (mulL (unitL cs.length i) ci) := by rw [unit_mul]; exact ch_of c1 (by omega) fun j _ => by split <;> omega
        refine ⟨_, rfl, _, rfl, l, _, _, _, rfl, rfl, SqL.of (s3 _ _ hl2), hat, y, dy, _, ci, rfl, rfl, hy, y, _, ci, rfl, w3, cu, cm, fun v H4 s4 w4 => ?_⟩
        obtain ⟨dv, tv, hv, htv⟩ := id w4
        refine ⟨z, dz, _, v, dv, _, rfl, rfl, s4 _ _ (s3 _ _ hz), hv, z, v, _, _, rfl, (w2.same s3).same s4, w4, sf.ch c, cm, ?_, fun v2 H5 s5 w5 => ?_⟩
        · rw [nx]
          exact (Sofar.ch (.inr rfl) c)
        · rw [nx] at w5
          exact ⟨v2, _, _, rfl, ((s2.trans s3).trans s4).trans s5, w5, .inr rfl⟩
    · rintro σ H2 ⟨z, ds, u, rfl, s2, w2, sf⟩
      rw [show ((cs.length : Nat) : Int).toNat = cs.length by omega] at sf
      obtain ⟨dz, tz, hz, htz⟩ := id w2
      have hl2 := s2 _ _ hl
      have dl := (sf.ch c).2.1
      refine ⟨_, rfl, z, dz, _, rfl, hz, z, ds, rfl, w2, ds.length, rfl, by omega, ?_⟩
      refine ⟨_, rfl, l, _, rfl, .inl (SqL.of hl2), rfl, _, rfl, ?_⟩
      rw [n1]
      by_cases q : ds.length = cs.length
      · refine ifT (dT (by rw [q])) ?_
        refine ⟨_, rfl, ?_⟩
        rw [sf.end' q] at w2
        exact k z H2 s2 w2
      · refine ifF (dF (fun e => by injection e with e; omega)) ?_
        refine ⟨_, rfl, _, rfl, l, _, rfl, .inl (SqL.of hl2), cs.length, 0, by rw [n1]; rfl, c1, c5, by omega, fun y H3 s3 w3 => ?_⟩
        obtain ⟨dy, ty, hy, hty⟩ := id w3
        have cu : CH (unitL cs.length 0) := ch_of c1 (by omega) fun j _ => by split <;> decide
        have cm : CH (mulL (unitL cs.length 0) 0) := by rw [unit_mul]; exact ch_of c1 (by omega) fun j _ => by split <;> omega
        refine ⟨y, dy, _, 0, rfl, rfl, hy, y, _, 0, rfl, w3, cu, cm, fun v H4 s4 w4 => ?_⟩
        obtain ⟨dv, tv, hv, htv⟩ := id w4
        have lst := sf.last c1
        refine ⟨z, dz, _, v, dv, _, rfl, rfl, s4 _ _ (s3 _ _ hz), hv, z, v, _, _, rfl, (w2.same s3).same s4, w4, sf.ch c, cm, by rw [lst]; exact c, fun v2 H5 s5 w5 => ?_⟩
        rw [lst] at w5
        exact k v2 H5 (((s2.trans s3).trans s4).trans s5) w5
end
end W6

/-! the whole course: plain Lean -/
namespace Th
/-- what the begins of the stretches and the repetition say -/
structure CourseOk (p : Par) (bs : List Nat) (back : Option Nat) : Prop where
  ok : p.Ok
  chain : Chain p bs
  len : bs.length ≤ 9602
  far : ∀ (i b : Nat), bs[i]? = some b → b ≤ 480100000000000000
  fin : back = none → Dis p bs bs.length ∧ ∃ b, bs[bs.length - 1]? = some b ∧ Nev p b
  rep : ∀ k, back = some k → Dis p bs (bs.length - 1) ∧ k + 1 < bs.length ∧ ∃ f l, bs[k]? = some f ∧ bs[bs.length - 1]? = some l ∧ stt p f = stt p l
/-- how late the stretches begin -/
theorem begins {bs : List Nat} (h : ∀ i b c, bs[i]? = some b → bs[i + 1]? = some c → c ≤ b + SB) (h0 : bs[0]? = some 0) : ∀ i b, bs[i]? = some b → b ≤ i * SB
  | 0, b, e => by rw [h0] at e; cases e; exact Nat.zero_le _
  | i + 1, b, e => by
    obtain ⟨a, ha⟩ := at_some (bs := bs) (i := i) (by have := at_lt e; omega)
    have := begins h h0 i a ha
    have := h i a b ha e
    rw [Nat.succ_mul]
    omega
theorem Dis.snoc {p : Par} {bs : List Nat} {b : Nat} (d : Dis p bs bs.length) (h : ∀ a : Nat, a ∈ bs → stt p a ≠ stt p b) : Dis p (bs ++ [b]) (bs.length + 1) := fun i j a c hij hj h1 h2 => by
  rw [List.getElem?_append_left (by omega)] at h1
  by_cases e : j < bs.length
  · rw [List.getElem?_append_left e] at h2
    exact d i j a c hij e h1 h2
  · rw [List.getElem?_append_right (by omega), show j - bs.length = 0 by omega] at h2
    cases h2
    exact h a (List.mem_of_getElem? h1)
theorem Dis.app {p : Par} {bs : List Nat} {b : Nat} (d : Dis p bs bs.length) : Dis p (bs ++ [b]) bs.length := fun i j a c hij hj h1 h2 => by
  rw [List.getElem?_append_left (by omega)] at h1
  rw [List.getElem?_append_left hj] at h2
  exact d i j a c hij hj h1 h2
theorem last_app {α : Type} {bs : List α} {b : α} : (bs ++ [b])[(bs ++ [b]).length - 1]? = some b := by
  rw [List.length_append, List.length_singleton, Nat.add_sub_cancel, List.getElem?_append_right (Nat.le_refl _), Nat.sub_self]; rfl
/-- the next stretch's temperature is the same line's -/
theorem baB_next {p : Par} {b e : Nat} (n : Nx p b e) : Dg p.ch (ggB p b) (baB p b) e = deg p e := by
  rw [Dg_B]
  obtain ⟨h1, r, _⟩ := n
  have := run_deg (by omega) r
  unfold DD; omega
theorem far_of {bs : List Nat} (h : ∀ (i b c : Nat), bs[i]? = some b → bs[i + 1]? = some c → c ≤ b + SB) (h0 : bs[0]? = some 0) (l : bs.length ≤ 9602) : ∀ (i b : Nat), bs[i]? = some b → b ≤ 480100000000000000 := fun i b e => by
  have q := begins h h0 i b e
  have l2 := at_lt e
  have : i * SB ≤ 9602 * SB := Nat.mul_le_mul_right _ (by omega)
  have e : 9602 * SB = 480100000000000000 := rfl
  omega
/-- where a tick is: how often all has been repeated, the stretch, and the tick before that -/
structure Pl (p : Par) (bs : List Nat) (back : Option Nat) (t r i t' : Nat) : Prop where
  at' : ∃ b, bs[i]? = some b ∧ b ≤ t' ∧ ∀ c, bs[i + 1]? = some c → t' < c
  non : back = none → r = 0 ∧ t' = t
  som : ∀ k f l, back = some k → bs[k]? = some f → bs[bs.length - 1]? = some l → t = t' + r * (l - f) ∧ t' < l ∧ (0 < r → f ≤ t')
theorem CourseOk.per {p : Par} {bs : List Nat} {back : Option Nat} (h : CourseOk p bs back) {k f l : Nat} (e : back = some k) (hf : bs[k]? = some f) (hl : bs[bs.length - 1]? = some l) : f < l ∧ Per p f (l - f) := by
  obtain ⟨_, kl, f', l', hf', hl', st⟩ := h.rep k e
  rw [hf] at hf'; cases hf'
  rw [hl] at hl'; cases hl'
  have lt := h.chain.lt' (show k < bs.length - 1 by omega) hf hl
  exact ⟨lt, per_of st (Nat.le_of_lt lt)⟩
/-- the heater in the stretch, and back to the tick -/
theorem Pl.stay {p : Par} {bs : List Nat} {back : Option Nat} {t r i t' b : Nat} (h : CourseOk p bs back) (q : Pl p bs back t r i t') (hb : bs[i]? = some b) : b ≤ t' ∧ Run p b (t' + 1) := by
  obtain ⟨b', hb', le, nxt⟩ := q.at'
  rw [hb] at hb'; cases hb'
  refine ⟨le, fun u h1 h2 => ?_⟩
  by_cases c : i + 1 < bs.length
  · obtain ⟨e, he⟩ := at_some c
    have := nxt e he
    exact (h.chain.2 i b e hb he).2.1 u h1 (by omega)
  · have il := at_lt hb
    have ei : i = bs.length - 1 := by omega
    subst ei
    cases eb : back with
    | none =>
      obtain ⟨_, b', hb', nv⟩ := h.fin eb
      rw [hb] at hb'; cases hb'
      exact nv u h1
    | some k =>
      obtain ⟨_, kl, f', l', hf', hl', st⟩ := h.rep k eb
      have := (q.som k f' l' eb hf' hl').2.1
      rw [hb] at hl'; cases hl'
      omega
theorem Pl.again {p : Par} {bs : List Nat} {back : Option Nat} {t r i t' : Nat} (h : CourseOk p bs back) (q : Pl p bs back t r i t') : traj p t = traj p t' := by
  cases eb : back with
  | none => rw [(q.non eb).2]
  | some k =>
    obtain ⟨_, kl, f', l', hf', hl', st⟩ := h.rep k eb
    obtain ⟨e1, e2, e3⟩ := q.som k f' l' eb hf' hl'
    obtain ⟨lt, pe⟩ := h.per eb hf' hl'
    by_cases hr : 0 < r
    · rw [e1]; exact pe.times (e3 hr) r
    · have : r = 0 := by omega
      subst this
      rw [e1]; simp
theorem Pl.on {p : Par} {bs : List Nat} {back : Option Nat} {t r i t' b : Nat} (h : CourseOk p bs back) (q : Pl p bs back t r i t') (hb : bs[i]? = some b) : onn p t = onn p b := by
  obtain ⟨le, run⟩ := q.stay h hb
  have e : onn p t = onn p t' := congrArg Prod.snd (q.again h)
  rw [e, run t' le (by omega)]
theorem Pl.heat {p : Par} {bs : List Nat} {back : Option Nat} {t r i t' b : Nat} (h : CourseOk p bs back) (q : Pl p bs back t r i t') (hb : bs[i]? = some b) :
    Hc p t' = Hc p b + (if onn p b then (t' : Int) - b else 0) ∧ (r = 0 → t = t') ∧ ∀ k f l, back = some k → bs[k]? = some f → bs[bs.length - 1]? = some l → 0 < r → Hc p t = Hc p t' + (r : Int) * (Hc p l - Hc p f) := by
  obtain ⟨le, run⟩ := q.stay h hb
  have e := run_heat le (fun u h1 h2 => run u h1 (by omega))
  refine ⟨?_, fun h0 => ?_, fun k f l eb hf hl hr => ?_⟩
  · rw [e]
    split <;> omega
  · subst h0
    cases eb : back with
    | none => exact (q.non eb).2.symm
    | some k =>
      obtain ⟨_, kl, f', l', hf', hl', st⟩ := h.rep k eb
      have := (q.som k f' l' eb hf' hl').1
      simpa using this
  · obtain ⟨e1, e2, e3⟩ := q.som k f l eb hf hl
    obtain ⟨lt, pe⟩ := h.per eb hf hl
    have z := pe.heats (e3 hr) r
    rw [show f + (l - f) = l by omega] at z
    rw [e1]; exact z
theorem Hc_bd (p : Par) : ∀ t, 0 ≤ Hc p t ∧ Hc p t ≤ (t : Int)
  | 0 => ⟨Int.le_refl _, Int.le_refl _⟩
  | t + 1 => by
    have := Hc_bd p t
    have e : Hc p (t + 1) = Hc p t + (if onn p t then 1 else 0) := rfl
    rw [e]
    split <;> omega
theorem Hc_mono (p : Par) (a : Nat) : ∀ d, Hc p a ≤ Hc p (a + d) ∧ Hc p (a + d) ≤ Hc p a + (d : Int)
  | 0 => ⟨Int.le_refl _, by simp⟩
  | d + 1 => by
    have := Hc_mono p a d
    have e : Hc p (a + (d + 1)) = Hc p (a + d) + (if onn p (a + d) then 1 else 0) := rfl
    rw [e]
    split <;> omega
end Th

/-! the repetition, the share of heating: plain Lean -/
namespace Th
/-- a level stretch without an end repeats each round -/
theorem level_per {p : Par} (ok : p.Ok) {b : Nat} (n : Nev p b) (z : rsum p.ch (gon p.g (onn p b)) = 0) : Per p b p.ch.length := fun t ht => by
  have on1 : onn p (t + p.ch.length) = onn p t := (n _ (by omega)).trans (n t ht).symm
  have ot : onn p t = onn p b := n t ht
  have r : Run p t (t + p.ch.length) := fun u h1 h2 => (n u (by omega)).trans ot.symm
  have e1 := run_deg (by omega) r
  have e2 := DD_round ok t t 1
  rw [Nat.one_mul, ot, z] at e2
  have e3 : DD p t (t + p.ch.length) = deg p (t + p.ch.length) := by unfold DD; omega
  have e4 : DD p t t = deg p t := by unfold DD; omega
  have e5 : deg p (t + p.ch.length) = deg p t := by rw [← e3, e2, e4]; simp
  exact Prod.ext e5 on1
theorem mod_cancel {x y c n : Nat} (h : y ≤ x) (k : (x + c) % n = (y + c) % n) : x % n = y % n := by
  have z := Nat.sub_mod_eq_zero_of_mod_eq k
  rw [show x + c - (y + c) = x - y by omega] at z
  obtain ⟨q, hq⟩ := Nat.dvd_of_mod_eq_zero z
  rw [show x = y + n * q by omega, Nat.add_mul_mod_self_left]
/-- what leads to two equal beginnings is equal -/
theorem back_eq {p : Par} {e1 f e2 l : Nat} (h1 : Nx p e1 f) (h2 : Nx p e2 l) (s : stt p f = stt p l) (lt : f < l) : ∀ j, j ≤ f - e1 → j ≤ l - e2 → traj p (l - j) = traj p (f - j)
  | 0, _, _ => by
    unfold stt at s
    injection s with _ s
    injection s with s1 s2
    exact Prod.ext s1.symm s2.symm
  | j + 1, a, b => by
    have ih := back_eq h1 h2 s lt j (by omega) (by omega)
    unfold stt at s
    injection s with s0 s
    injection s with s1 s2
    have g1 := h1.1
    have g2 := h2.1
    have o1 : onn p (f - (j + 1)) = onn p e1 := h1.2.1 _ (by omega) (by omega)
    have o2 : onn p (l - (j + 1)) = onn p e2 := h2.2.1 _ (by omega) (by omega)
    have q1 := h1.2.2
    have q2 := h2.2.2
    have oe : onn p (l - (j + 1)) = onn p (f - (j + 1)) := by
      rw [o1, o2]
      rw [s2] at q1
      cases x1 : onn p e1 <;> cases x2 : onn p e2 <;> cases x3 : onn p l <;> simp_all
    have d1 := deg_succ p (f - (j + 1))
    have d2 := deg_succ p (l - (j + 1))
    rw [show f - (j + 1) + 1 = f - j by omega] at d1
    rw [show l - (j + 1) + 1 = l - j by omega] at d2
    have id : deg p (l - j) = deg p (f - j) := congrArg Prod.fst ih
    have ce : chAt p.ch (l - (j + 1)) = chAt p.ch (f - (j + 1)) := by
      unfold chAt
      have : (l - (j + 1)) % p.ch.length = (f - (j + 1)) % p.ch.length := by
        have m : (l - (j + 1)) + (j + 1) = l := by omega
        have m2 : (f - (j + 1)) + (j + 1) = f := by omega
        have k : ((l - (j + 1)) + (j + 1)) % p.ch.length = ((f - (j + 1)) + (j + 1)) % p.ch.length := by rw [m, m2]; exact s0.symm
        exact mod_cancel (by omega) k
      rw [this]
    rw [oe, ce] at d2
    exact Prod.ext (show deg p (l - (j + 1)) = deg p (f - (j + 1)) by omega) oe
/-- what recurrence gives -/
def Rec (p : Par) (bs : List Nat) (back : Option Nat) (r : Option (Nat × Nat)) : Prop :=
  match back with
  | none => ∃ b, bs[bs.length - 1]? = some b ∧ r = if rsum p.ch (gon p.g (onn p b)) = 0 then some (b, p.ch.length) else none
  | some k => ∃ f l, bs[k]? = some f ∧ bs[bs.length - 1]? = some l ∧ ((k = 0 ∧ r = some (f, l - f)) ∨ ∃ k' e1 e2, k = k' + 1 ∧ bs[k']? = some e1 ∧ bs[bs.length - 2]? = some e2 ∧ r = some (f - min (f - e1) (l - e2), l - f))
/-- what share_of_heating gives -/
def Share (p : Par) (bs : List Nat) (back : Option Nat) (top bot : Nat) : Prop :=
  match back with
  | none => ∃ b, bs[bs.length - 1]? = some b ∧ bot = 1 ∧ top = if onn p b then 1 else 0
  | some k => ∃ f l h, bs[k]? = some f ∧ bs[bs.length - 1]? = some l ∧ Hc p l - Hc p f = (h : Nat) ∧ h ≤ l - f ∧ top = h / Nat.gcd h (l - f) ∧ bot = (l - f) / Nat.gcd h (l - f)
theorem Rec.per {p : Par} {bs : List Nat} {back : Option Nat} {f T : Nat} (c : CourseOk p bs back) (h : Rec p bs back (some (f, T))) : Per p f T ∧ 1 ≤ T ∧ f + T ≤ 480100000000000100 := by
  have n1 := c.ok.n1
  have n24 := c.ok.n24
  cases back with
  | none =>
    obtain ⟨b, hb, e⟩ := h
    split at e
    · rename_i z
      cases e
      obtain ⟨_, b', hb', nv⟩ := c.fin rfl
      rw [hb] at hb'; cases hb'
      have := c.far _ _ hb
      exact ⟨level_per c.ok nv z, n1, by omega⟩
    · cases e
  | some k =>
    obtain ⟨f', l, hf, hl, e⟩ := h
    obtain ⟨lt, pe⟩ := c.per rfl hf hl
    have fl := c.far _ _ hl
    rcases e with ⟨rfl, e⟩ | ⟨k', e1, e2, rfl, h1, h2, e⟩
    · cases e
      exact ⟨pe, by omega, by omega⟩
    · cases e
      obtain ⟨_, kl, f'', l'', hf'', hl'', st⟩ := c.rep (k' + 1) rfl
      rw [hf] at hf''; cases hf''
      rw [hl] at hl''; cases hl''
      have x1 := c.chain.2 k' e1 f' h1 hf
      have x2 := c.chain.2 (bs.length - 2) e2 l h2 (by rw [show bs.length - 2 + 1 = bs.length - 1 by omega]; exact hl)
      have be := back_eq x1 x2 st lt
      have g1 := x1.1
      have g2 := x2.1
      refine ⟨fun t ht => ?_, by omega, by omega⟩
      by_cases q : f' ≤ t
      · exact pe t q
      · have := be (f' - t) (by omega) (by omega)
        rw [show l - (f' - t) = t + (l - f') by omega, show f' - (f' - t) = t by omega] at this
        exact this
theorem Rec.none' {p : Par} {bs : List Nat} {back : Option Nat} (h : Rec p bs back none) : back = none := by
  cases back with
  | none => rfl
  | some k =>
    obtain ⟨f', l, hf, hl, e⟩ := h
    rcases e with ⟨_, e⟩ | ⟨_, _, _, _, _, _, e⟩ <;> cases e
theorem nev_heat {p : Par} {b : Nat} (n : Nev p b) (d : Nat) : Hc p (b + d) = Hc p b + (if onn p b then (d : Int) else 0) := by
  have := run_heat (e := b + d) (by omega) (fun t h1 _ => n t h1)
  rw [this, show b + d - b = d by omega]
/-- the heating of a repetition is the share -/
theorem Rec.share {p : Par} {bs : List Nat} {back : Option Nat} {f T top bot : Nat} (c : CourseOk p bs back) (h : Rec p bs back (some (f, T))) (s : Share p bs back top bot) : (Hc p (f + T) - Hc p f) * (bot : Int) = (top : Int) * (T : Int) := by
  obtain ⟨pe, t1, _⟩ := h.per c
  cases back with
  | none =>
    obtain ⟨b, hb, e⟩ := h
    obtain ⟨b2, hb2, eb, et⟩ := s
    rw [hb] at hb2; cases hb2
    split at e
    · cases e
      obtain ⟨_, b', hb', nv⟩ := c.fin rfl
      rw [hb] at hb'; cases hb'
      rw [nev_heat nv, eb, et]
      cases onn p f <;> simp
      omega
    · cases e
  | some k =>
    obtain ⟨f', l, hf, hl, e⟩ := h
    obtain ⟨f2, l2, h2, hf2, hl2, hh, hle, et, eb⟩ := s
    rw [hf] at hf2; cases hf2
    rw [hl] at hl2; cases hl2
    obtain ⟨lt, pe'⟩ := c.per rfl hf hl
    have eT : T = l - f' ∧ f ≤ f' := by
      rcases e with ⟨rfl, e⟩ | ⟨k', e1, e2, rfl, h1, h2, e⟩ <;> cases e
      · exact ⟨rfl, Nat.le_refl _⟩
      · exact ⟨rfl, by omega⟩
    obtain ⟨rfl, lf⟩ := eT
    have q := pe.heat (f' - f)
    rw [Nat.add_sub_cancel' lf, Nat.add_sub_cancel' (Nat.le_of_lt lt), hh] at q
    rw [← q, et, eb]
    have g1 := Nat.gcd_dvd_left h2 (l - f')
    have g2 := Nat.gcd_dvd_right h2 (l - f')
    have z : h2 * ((l - f') / Nat.gcd h2 (l - f')) = h2 / Nat.gcd h2 (l - f') * (l - f') := by
      rw [← Nat.mul_div_assoc _ g2, Nat.mul_comm (h2 / _), ← Nat.mul_div_assoc _ g1, Nat.mul_comm]
    have := congrArg (fun n : Nat => (n : Int)) z
    simpa using this
theorem Share.ok {p : Par} {bs : List Nat} {back : Option Nat} {top bot : Nat} (c : CourseOk p bs back) (s : Share p bs back top bot) : 1 ≤ bot ∧ top ≤ bot ∧ Nat.gcd top bot = 1 := by
  cases back with
  | none =>
    obtain ⟨b, hb, rfl, rfl⟩ := s
    cases onn p b <;> simp
  | some k =>
    obtain ⟨f, l, h, hf, hl, hh, hle, rfl, rfl⟩ := s
    obtain ⟨lt, _⟩ := c.per rfl hf hl
    have g0 : 0 < Nat.gcd h (l - f) := Nat.gcd_pos_of_pos_right _ (by omega)
    have g2 := Nat.gcd_dvd_right h (l - f)
    refine ⟨Nat.div_pos (Nat.le_of_dvd (by omega) g2) g0, Nat.div_le_div_right hle, ?_⟩
    rw [Nat.gcd_div (Nat.gcd_dvd_left h (l - f)) g2, Nat.div_self g0]
/-- all the heating there is -/
theorem Share.ever {p : Par} {bs : List Nat} {top bot : Nat} (c : CourseOk p bs none) (s : Share p bs none top bot) : bot = 1 ∧ top = if onn p 1000000000000000000 then 1 else 0 := by
  obtain ⟨b, hb, e1, e2⟩ := s
  obtain ⟨_, b', hb', nv⟩ := c.fin rfl
  rw [hb] at hb'; cases hb'
  have := c.far _ _ hb
  rw [nv 1000000000000000000 (by omega)]
  exact ⟨e1, e2⟩
end Th

/-! temperatures and begins by the place of a tick: plain Lean -/
namespace Th
theorem Pl.degs {p : Par} {bs : List Nat} {back : Option Nat} {t r i t' b : Nat} (h : CourseOk p bs back) (q : Pl p bs back t r i t') (hb : bs[i]? = some b) : Dg p.ch (gon p.g (onn p b)) (baB p b) t' = deg p t := by
  obtain ⟨le, run⟩ := q.stay h hb
  have e1 := run_deg le (fun u h1 h2 => run u h1 (by omega))
  have e2 : deg p t = deg p t' := congrArg Prod.fst (q.again h)
  have e3 := Dg_B p b t'
  unfold ggB DD at e3
  omega
/-- how many stretches begin in a tick or before it -/
def Cn (p : Par) : Nat → Nat
  | 0 => 1
  | t + 1 => Cn p t + (if onn p (t + 1) = onn p t then 0 else 1)
theorem Cn_pos (p : Par) : ∀ t, 1 ≤ Cn p t
  | 0 => Nat.le_refl _
  | t + 1 => by have := Cn_pos p t; show 1 ≤ Cn p t + _; omega
theorem Cn_le (p : Par) : ∀ t, Cn p t ≤ t + 1
  | 0 => Nat.le_refl _
  | t + 1 => by
    have := Cn_le p t
    show Cn p t + (if onn p (t + 1) = onn p t then 0 else 1) ≤ t + 1 + 1
    split <;> omega
theorem Cn_run {p : Par} {b : Nat} : ∀ {d : Nat}, Run p b (b + d + 1) → Cn p (b + d) = Cn p b
  | 0, _ => rfl
  | d + 1, r => by
    have ih := Cn_run (d := d) (fun u h1 h2 => r u h1 (by omega))
    show Cn p (b + d) + (if onn p (b + d + 1) = onn p (b + d) then 0 else 1) = Cn p b
    rw [if_pos ((r (b + d + 1) (by omega) (by omega)).trans (r (b + d) (by omega) (by omega)).symm), ih]; rfl
theorem Cn_nx {p : Par} {b e : Nat} (n : Nx p b e) : Cn p e = Cn p b + 1 := by
  obtain ⟨lt, r, ne⟩ := n
  obtain ⟨d, rfl⟩ : ∃ d, e = b + d + 1 := ⟨e - b - 1, by omega⟩
  show Cn p (b + d) + (if onn p (b + d + 1) = onn p (b + d) then 0 else 1) = Cn p b + 1
  rw [Cn_run r, if_neg (fun h => ne (h.trans (r (b + d) (by omega) (by omega))))]
theorem Chain.cn {p : Par} {bs : List Nat} (h : Chain p bs) : ∀ {i b : Nat}, bs[i]? = some b → Cn p b = i + 1
  | 0, b, e => by rw [h.1] at e; cases e; rfl
  | i + 1, b, e => by
    obtain ⟨a, ha⟩ := at_some (bs := bs) (i := i) (by have := at_lt e; omega)
    rw [Cn_nx (h.2 i a b ha e), h.cn ha]
theorem Per.cns {p : Par} {f T : Nat} (h : Per p f T) : ∀ j, Cn p (f + j + T) + Cn p f = Cn p (f + j) + Cn p (f + T)
  | 0 => by rw [Nat.add_zero, Nat.add_comm]
  | j + 1 => by
    have ih := h.cns j
    have e0 : onn p (f + j + T) = onn p (f + j) := congrArg Prod.snd (h (f + j) (by omega))
    have e1 : onn p (f + j + 1 + T) = onn p (f + j + 1) := congrArg Prod.snd (h (f + j + 1) (by omega))
    have c1 : Cn p (f + (j + 1) + T) = Cn p (f + j + T) + (if onn p (f + j + T + 1) = onn p (f + j + T) then 0 else 1) := by
      rw [show f + (j + 1) + T = (f + j + T) + 1 by omega]; rfl
    have c2 : Cn p (f + (j + 1)) = Cn p (f + j) + (if onn p (f + j + 1) = onn p (f + j) then 0 else 1) := rfl
    rw [c1, c2, e0, show f + j + T + 1 = f + j + 1 + T by omega, e1]
    omega
theorem Per.cnm {p : Par} {f T : Nat} (h : Per p f T) {t : Nat} (ht : f ≤ t) : ∀ m : Nat, Cn p (t + m * T) + m * Cn p f = Cn p t + m * Cn p (f + T)
  | 0 => by simp
  | m + 1 => by
    have ih := h.cnm ht m
    have e := h.cns (t + m * T - f)
    rw [show f + (t + m * T - f) = t + m * T by omega] at e
    rw [Nat.succ_mul, ← Nat.add_assoc, Nat.succ_mul, Nat.succ_mul]
    omega
theorem Pl.cn {p : Par} {bs : List Nat} {back : Option Nat} {t r i t' : Nat} (h : CourseOk p bs back) (q : Pl p bs back t r i t') : Cn p t' = i + 1 ∧ (r = 0 → t = t') ∧ ∀ k, back = some k → 0 < r → k + 1 < bs.length ∧ Cn p t = i + 1 + r * (bs.length - 1 - k) := by
  obtain ⟨b, hb, le, nx⟩ := q.at'
  obtain ⟨_, run⟩ := q.stay h hb
  have c1 : Cn p t' = i + 1 := by
    obtain ⟨d, rfl⟩ : ∃ d, t' = b + d := ⟨t' - b, by omega⟩
    rw [Cn_run run, h.chain.cn hb]
  refine ⟨c1, (q.heat h hb).2.1, fun k eb hr => ?_⟩
  obtain ⟨_, kl, f, l, hf, hl, st⟩ := h.rep k eb
  obtain ⟨e1, e2, e3⟩ := q.som k f l eb hf hl
  obtain ⟨lt, pe⟩ := h.per eb hf hl
  have z := pe.cnm (e3 hr) r
  rw [Nat.add_sub_cancel' (Nat.le_of_lt lt), ← e1, h.chain.cn hf, h.chain.cn hl, c1] at z
  refine ⟨kl, ?_⟩
  have e4 : r * (bs.length - 1 + 1) = r * (k + 1) + r * (bs.length - 1 - k) := by rw [← Nat.mul_add]; congr 1; omega
  omega
end Th

/-! A heater by a setting, tick by tick. -/
namespace Th
/-- a setting: its thresholds in a tick, whether it lets the heater switch in a tick after a last switching -/
structure Sg where
  thr : Nat → Int × Int
  lets : Nat → Option Nat → Bool
structure Ws where
  d : Int
  on : Bool
  last : Option Nat
def Sg.want (S : Sg) (k : Nat) (w : Ws) : Bool := hst w.d (S.thr k).1 (S.thr k).2 w.on
def Sg.sw (S : Sg) (k : Nat) (w : Ws) : Bool × Option Nat := if (S.want k w != w.on) = true ∧ S.lets k w.last = true then (S.want k w, some k) else (w.on, w.last)
def Sg.st (S : Sg) (ch : List Int) (g s0 : Int) : Nat → Ws
  | 0 => ⟨s0, false, none⟩
  | k + 1 => ⟨(S.st ch g s0 k).d + chAt ch k + gon g (S.sw k (S.st ch g s0 k)).1, (S.sw k (S.st ch g s0 k)).1, (S.sw k (S.st ch g s0 k)).2⟩
section
variable (S : Sg) (ch : List Int) (g s0 : Int)
/-- the temperature at the beginning of a tick, whether the heater is on in it -/
def Sg.wd (k : Nat) : Int := (S.st ch g s0 k).d
def Sg.wo (k : Nat) : Bool := (S.st ch g s0 (k + 1)).on
def Sg.hc : Nat → Int
  | 0 => 0
  | k + 1 => Sg.hc k + (if S.wo ch g s0 k = true then 1 else 0)
def Sg.sc : Nat → Int
  | 0 => 0
  | k + 1 => Sg.sc k + (if (S.wo ch g s0 k != (S.st ch g s0 k).on) = true then 1 else 0)
def Sg.least : Nat → Option Int
  | 0 => none
  | k + 1 => match Sg.least k with
    | none => some (S.wd ch g s0 k)
    | some m => some (if S.wd ch g s0 k < m then S.wd ch g s0 k else m)
variable {S ch g s0}
theorem Sg.last_lt : ∀ {k l : Nat}, (S.st ch g s0 k).last = some l → l < k
  | 0, l, h => by cases h
  | k + 1, l, h => by
    have h : (S.sw k (S.st ch g s0 k)).2 = some l := h
    unfold Sg.sw at h
    split at h
    · cases h; exact Nat.lt_succ_self _
    · exact Nat.lt_succ_of_lt (Sg.last_lt h)
theorem bne_self (b : Bool) : (b != b) = false := by cases b <;> rfl
theorem Sg.sw_want {k : Nat} {w : Ws} (h : S.lets k w.last = true) : (S.sw k w).1 = S.want k w := by
  unfold Sg.sw
  split
  · rfl
  · rename_i n
    have e : S.want k w = w.on := by
      cases q : (S.want k w != w.on) with
      | true => exact absurd ⟨q, h⟩ n
      | false => revert q; cases S.want k w <;> cases w.on <;> simp
    exact e.symm
/-- a setting that has two thresholds and always lets the heater switch: what a room does -/
theorem Sg.room {p : Par} (h0 : p.on0 = false) (ht : ∀ k, S.thr k = (p.lo, p.hi)) (hl : ∀ k l, (∀ x, l = some x → x < k) → S.lets k l = true) : ∀ k, S.wd p.ch p.g p.st k = deg p k ∧ S.wo p.ch p.g p.st k = onn p k := by
  have lets : ∀ k, S.lets k (S.st p.ch p.g p.st k).last = true := fun k => hl k _ fun x e => Sg.last_lt e
  have key : ∀ k, (S.st p.ch p.g p.st k).d = deg p k ∧ (S.sw k (S.st p.ch p.g p.st k)).1 = onn p k := by
    intro k
    induction k with
    | zero =>
      refine ⟨rfl, ?_⟩
      rw [Sg.sw_want (lets 0)]
      unfold Sg.want
      rw [ht]
      show hst p.st p.lo p.hi false = hst p.st p.lo p.hi p.on0
      rw [h0]
    | succ k ih =>
      have e1 : (S.st p.ch p.g p.st (k + 1)).d = deg p (k + 1) := by
        rw [deg_succ]
        show (S.st p.ch p.g p.st k).d + chAt p.ch k + gon p.g (S.sw k (S.st p.ch p.g p.st k)).1 = _
        rw [ih.1, ih.2]
      refine ⟨e1, ?_⟩
      rw [Sg.sw_want (lets (k + 1)), onn_succ]
      unfold Sg.want
      rw [ht, e1]
      show hst _ _ _ (S.sw k (S.st p.ch p.g p.st k)).1 = _
      rw [ih.2]
  exact fun k => ⟨(key k).1, (key k).2⟩
theorem Sg.hc_room {p : Par} (h : ∀ k, S.wo p.ch p.g p.st k = onn p k) : ∀ n, S.hc p.ch p.g p.st n = Hc p n
  | 0 => rfl
  | n + 1 => by
    show S.hc p.ch p.g p.st n + _ = Hc p n + _
    rw [Sg.hc_room h n, h]
theorem Sg.on_succ (k : Nat) : (S.st ch g s0 (k + 1)).on = S.wo ch g s0 k := rfl
theorem Sg.sc_room {p : Par} (h0 : p.on0 = false) (h : ∀ k, S.wo p.ch p.g p.st k = onn p k) : ∀ n, S.sc p.ch p.g p.st (n + 1) = (Cn p n : Int) - (if onn p 0 = p.on0 then 1 else 0)
  | 0 => by
    show (0 : Int) + (if (S.wo p.ch p.g p.st 0 != false) = true then 1 else 0) = ((1 : Nat) : Int) - _
    rw [h, h0]
    cases onn p 0 <;> simp
  | n + 1 => by
    show S.sc p.ch p.g p.st (n + 1) + (if (S.wo p.ch p.g p.st (n + 1) != (S.st p.ch p.g p.st (n + 1)).on) = true then 1 else 0) = _
    rw [Sg.sc_room h0 h n, Sg.on_succ, h, h]
    show _ = ((Cn p n + (if onn p (n + 1) = onn p n then 0 else 1) : Nat) : Int) - _
    cases onn p (n + 1) <;> cases onn p n <;> simp <;> omega
/-- the heater switches in a tick -/
def Sg.chg (S : Sg) (ch : List Int) (g s0 : Int) (k : Nat) : Bool := S.wo ch g s0 k != (S.st ch g s0 k).on
theorem Sg.chg_last {k : Nat} (h : S.chg ch g s0 k = true) : S.lets k (S.st ch g s0 k).last = true ∧ (S.st ch g s0 (k + 1)).last = some k := by
  unfold Sg.chg Sg.wo at h
  have h : ((S.sw k (S.st ch g s0 k)).1 != (S.st ch g s0 k).on) = true := h
  show _ ∧ (S.sw k (S.st ch g s0 k)).2 = some k
  unfold Sg.sw at h ⊢
  split at h
  · rename_i c
    exact ⟨c.2, by rw [if_pos c]⟩
  · rw [bne_self] at h; cases h
theorem Sg.last_ge {i : Nat} (h : S.chg ch g s0 i = true) : ∀ d, ∃ l, (S.st ch g s0 (i + 1 + d)).last = some l ∧ i ≤ l
  | 0 => ⟨i, (Sg.chg_last h).2, Nat.le_refl _⟩
  | d + 1 => by
    obtain ⟨l, e, hl⟩ := Sg.last_ge h d
    show ∃ l, (S.sw (i + 1 + d) (S.st ch g s0 (i + 1 + d))).2 = some l ∧ i ≤ l
    unfold Sg.sw
    split
    · exact ⟨_, rfl, by omega⟩
    · exact ⟨l, e, hl⟩
/-- two switchings: more than the rest lies between -/
theorem Sg.rest {r : Nat} (hl : ∀ k l, S.lets k (some l) = true → l + r < k) {i j : Nat} (hij : i < j) (hi : S.chg ch g s0 i = true) (hj : S.chg ch g s0 j = true) : i + r < j := by
  obtain ⟨l, e, h⟩ := Sg.last_ge hi (j - (i + 1))
  rw [show i + 1 + (j - (i + 1)) = j by omega] at e
  have h1 := (Sg.chg_last hj).1
  rw [e] at h1
  have := hl _ _ h1
  omega
end
def plainS (lo hi : Int) : Sg := ⟨fun _ => (lo, hi), fun _ _ => true⟩
def restS (lo hi r : Int) : Sg := ⟨fun _ => (lo, hi), fun k l => match l with | none => true | some x => decide (r < (k : Int) - x)⟩
def hourT (L : Nat) (ps : List (Int × Int × Int)) (t : Nat) : Int × Int := ((ps.filter fun p => decide (p.1 ≤ ((t % L : Nat) : Int))).map (·.2)).getLastD (0, 0)
def hourS (L : Nat) (ps : List (Int × Int × Int)) : Sg := ⟨hourT L ps, fun _ _ => true⟩
end Th

namespace W6
open PySem PySem.Spec PyProof.Rows L2 Ru StX LamX
/-- a def that begins with super() -/
def SupF (P : Program) (K : PySem.W.Frag) (mg : Str → Option Value) (name qual : Str) (st : Stmt) (D f g : Addr) (fd : FuncData) : Prop :=
  ∃ (oc : Value) (od : Option Addr) (osl : Array (Option Value)) (doc pm : Value) (an : Option Addr) (cda cc : Addr) (ct : Value), fd = PySem.W.ksFn name qual (defArgs st) (defBody st) (defScope st) .none .none doc pm an (.ref cda) ct cc ∧ K.lookup f = some ⟨oc, od, .func fd, osl⟩ ∧ PySem.W.codeIn K (.ref cda) qual = true ∧
    (∃ cl cld csl, K.lookup cc = some ⟨cl, cld, .cell (some (.ref D)), csl⟩) ∧ SuT P K mg name D f cc cda g fd
structure StC (P : Program) (K : PySem.W.Frag) (mg : Str → Option Value) (a : Ad) : Prop where
  hl : Meth K a.c_HourSetting "lets_switch" a.f_Setting_lets_switch
  fg : PySem.W.fnIn K a.f_Weather_getitem = true
  ini : SupF P K mg "__init__" "RestSetting.__init__" s_RestSetting_init a.c_RestSetting a.f_RestSetting_init a.f_Setting_init a.d_RestSetting_init
  thr : SupF P K mg "thresholds" "RestSetting.thresholds" s_RestSetting_thresholds a.c_RestSetting a.f_RestSetting_thresholds a.f_Setting_thresholds a.d_RestSetting_thresholds
def thrOk (lo hi : Int) : Bool := decide (-1000000000000 ≤ lo ∧ lo ≤ hi ∧ hi ≤ 1000000000000)
/-- the parts of a day: the first one that cannot be -/
def fipGo (L : Int) : Nat → Int → List (Int × Int × Int) → Option Nat
  | _, _, [] => none
  | i, b, p :: r => if i = 0 ∧ p.1 ≠ 0 then some i else if ¬ (b < p.1 ∧ p.1 < L) ∨ thrOk p.2.1 p.2.2 = false then some i else fipGo L (i + 1) p.1 r
def fip (L : Int) (ps : List (Int × Int × Int)) : Option Nat := if ps = [] then some 0 else fipGo L 0 (-1) ps
def PartsAt (H : Hp) (qs : List Addr) (ps : List (Int × Int × Int)) : Prop := qs.length = ps.length ∧ ∀ (i : Nat) (q : Addr) (p : Int × Int × Int), qs[i]? = some q → ps[i]? = some p → H q = some (.tup [.int p.1, .int p.2.1, .int p.2.2])
theorem PartsAt.same {H H' : Hp} {qs : List Addr} {ps : List (Int × Int × Int)} (h : PartsAt H qs ps) (s : Same H H') : PartsAt H' qs ps := ⟨h.1, fun i q p a b => s _ _ (h.2 i q p a b)⟩
theorem PartsAt.at {H : Hp} {qs : List Addr} {ps : List (Int × Int × Int)} (h : PartsAt H qs ps) {i : Nat} {v : V} (e : (qs.map V.ref)[i]? = some v) : ∃ q p, v = .ref q ∧ ps[i]? = some p ∧ H q = some (.tup [.int p.1, .int p.2.1, .int p.2.2]) := by
  rw [List.getElem?_map] at e
  cases eq : qs[i]? with
  | none => rw [eq] at e; cases e
  | some q =>
    rw [eq] at e
    have hi : i < ps.length := by rw [← h.1]; exact (List.getElem?_eq_some_iff.mp eq).1
    exact ⟨q, ps[i], (Option.some.inj e).symm, List.getElem?_eq_getElem hi, h.2 i q _ eq (List.getElem?_eq_getElem hi)⟩
/-- pairs, each a tuple -/
def PrsAt (H : Hp) (rs : List Addr) (xs : List (Int × Int)) : Prop := rs.length = xs.length ∧ ∀ (j : Nat) (r : Addr) (q : Int × Int), rs[j]? = some r → xs[j]? = some q → H r = some (.tup [.int q.1, .int q.2])
def hourF (L : Nat) (ps : List (Int × Int × Int)) (t i : Nat) : List (Int × Int) := ((ps.take i).filter fun p => decide (p.1 ≤ ((t % L : Nat) : Int))).map (·.2)
theorem hourF_succ {L t : Nat} {ps : List (Int × Int × Int)} {i : Nat} {p : Int × Int × Int} (h : ps[i]? = some p) : hourF L ps t (i + 1) = if p.1 ≤ ((t % L : Nat) : Int) then hourF L ps t i ++ [p.2] else hourF L ps t i := by
  unfold hourF
  rw [List.take_succ, h, List.filter_append, List.map_append]
  show _ ++ (List.filter _ [p]).map _ = _
  generalize ((t % L : Nat) : Int) = m
  by_cases c : p.1 ≤ m
  · rw [if_pos c]; simp [c]
  · rw [if_neg c]; simp [c]
theorem atI_last {rs : List Addr} {r : Addr} (h : rs[rs.length - 1]? = some r) : atI (rs.map V.ref) (-1) = some (.ref r) := by
  have l := (List.getElem?_eq_some_iff.mp h).1
  unfold atI ixN
  rw [List.length_map, if_neg (by decide), if_pos (by omega)]
  show (rs.map V.ref)[_]? = _
  rw [show ((-1 : Int) + (rs.length : Int)).toNat = rs.length - 1 by omega, List.getElem?_map, h]
  rfl
theorem fipGo_drop {L : Int} {ps : List (Int × Int × Int)} {i : Nat} {b : Int} {p : Int × Int × Int} (h : ps[i]? = some p) : fipGo L i b (ps.drop i) = if i = 0 ∧ p.1 ≠ 0 then some i else if ¬ (b < p.1 ∧ p.1 < L) ∨ thrOk p.2.1 p.2.2 = false then some i else fipGo L (i + 1) p.1 (ps.drop (i + 1)) := by
  obtain ⟨hi, e⟩ := List.getElem?_eq_some_iff.mp h
  rw [List.drop_eq_getElem_cons hi, e]
  rfl
theorem fip_none {L : Int} {ps : List (Int × Int × Int)} (h : fip L ps = none) : ∃ p r, ps = p :: r ∧ p.1 = 0 := by
  unfold fip at h
  split at h
  · cases h
  · cases ps with
    | nil => rename_i n; exact absurd rfl n
    | cons p r =>
      refine ⟨p, r, rfl, ?_⟩
      unfold fipGo at h
      split at h
      · cases h
      · rename_i n
        exact Decidable.byContradiction fun c => n ⟨rfl, c⟩
theorem and_stp {c1 c2 : TT} {σ : L2.St} {H : Hp} {Q : Bool → Hp → Prop} (h : c1 σ H fun b H1 => if b = true then c2 σ H1 Q else Q false H1) : tAnd c1 c2 σ H Q := h
section
variable (K : PySem.W.Frag) (a : Ad)
def spSti : Sp := fun vs H Q _ => ∃ (x C dx : Addr) (lo hi : Int), vs = [.ref x, .int lo, .int hi] ∧ H x = some (.ins C dx []) ∧ Cls K C ∧ NoAttr K C "_low" ∧ NoAttr K C "_high" ∧ thrOk lo hi = true ∧ ∀ H', Fr1 x H H' → H' x = some (.ins C dx [("_low", .int lo), ("_high", .int hi)]) → Q .non H'
def spStt : Sp := fun vs H Q _ => ∃ (z C dx : Addr) (t : V) (fs : List (Str × V)) (lo hi : Int), vs = [.ref z, t] ∧ H z = some (.ins C dx fs) ∧ Cls K C ∧ NoAttr K C "_low" ∧ NoAttr K C "_high" ∧ fs.lookup ("_low" : Str) = some (.int lo) ∧ fs.lookup ("_high" : Str) = some (.int hi) ∧
  ∀ p H', Same H H' → H p = none → H' p = some (.tup [.int lo, .int hi]) → Q (.ref p) H'
def spStl : Sp := fun vs H Q _ => ∃ (x t l : V), vs = [x, t, l] ∧ Q (.bl true) H
def spFip : Sp := fun vs H Q _ => ∃ (t : Addr) (L : Int) (qs : List Addr) (ps : List (Int × Int × Int)), vs = [.int L, .ref t] ∧ H t = some (.tup (qs.map V.ref)) ∧ PartsAt H qs ps ∧ ∀ H', Same H H' → Q (optV (fip L ps)) H'
def HourAt (H : Hp) (z : Addr) (L : Nat) (ps : List (Int × Int × Int)) : Prop := 1 ≤ L ∧ fip L ps = none ∧ ∃ dx t qs, H z = some (.ins a.c_HourSetting dx [("_length", .int L), ("_parts", .ref t)]) ∧ H t = some (.tup (qs.map V.ref)) ∧ PartsAt H qs ps
def RestAt (H : Hp) (z : Addr) (lo hi r : Int) : Prop := ∃ dx, H z = some (.ins a.c_RestSetting dx [("_low", .int lo), ("_high", .int hi), ("_rest", .int r)])
def SetAt (H : Hp) (z : Addr) (lo hi : Int) : Prop := ∃ dx, H z = some (.ins a.c_Setting dx [("_low", .int lo), ("_high", .int hi)])
def spHoi : Sp := fun vs H Q _ => ∃ (x dx t : Addr) (L : Nat) (qs : List Addr) (ps : List (Int × Int × Int)), vs = [.ref x, .int L, .ref t] ∧ H x = some (.ins a.c_HourSetting dx []) ∧ H t = some (.tup (qs.map V.ref)) ∧ PartsAt H qs ps ∧ 1 ≤ L ∧ L ≤ 24 ∧ fip L ps = none ∧ ∀ H', Fr1 x H H' → HourAt a H' x L ps → Q .non H'
def spHos : Sp := fun vs H Q E => ∃ ws rest, vs = ws ++ rest ∧ ws.length = ["self", "length"].length ∧ rest.length ≤ sizeLine ∧ ∀ p, H p = Option.none → spHoi a (ws ++ [V.ref p]) (upd H p (.tup rest)) Q E
def spHot : Sp := fun vs H Q _ => ∃ (z : Addr) (t L : Nat) (ps : List (Int × Int × Int)), vs = [.ref z, .int t] ∧ HourAt a H z L ps ∧ ps.length ≤ 1000 ∧ ∀ p H', Same H H' → H' p = some (.tup [.int (Th.hourT L ps t).1, .int (Th.hourT L ps t).2]) → Q (.ref p) H'
def spRsi : Sp := fun vs H Q _ => ∃ (x dx : Addr) (lo hi r : Int), vs = [.ref x, .int lo, .int hi, .int r] ∧ H x = some (.ins a.c_RestSetting dx []) ∧ thrOk lo hi = true ∧ 0 ≤ r ∧ r ≤ 1000 ∧ ∀ H', Fr1 x H H' → RestAt a H' x lo hi r → Q .non H'
def spRst : Sp := fun vs H Q _ => ∃ (z : Addr) (t : V) (lo hi r : Int), vs = [.ref z, t] ∧ RestAt a H z lo hi r ∧ ∀ p H', Same H H' → H' p = some (.tup [.int lo, .int hi]) → Q (.ref p) H'
def spRsl : Sp := fun vs H Q _ => ∃ (z : Addr) (t : Nat) (l : Option Nat) (lo hi r : Int), vs = [.ref z, .int t, optV l] ∧ RestAt a H z lo hi r ∧ Q (.bl ((Th.restS lo hi r).lets t l)) H
def spWgt : Sp := fun vs H Q _ => ∃ (z : Addr) (cs : List Int) (n : Nat), vs = [.ref z, .int n] ∧ WAt a H z cs ∧ CH cs ∧ n ≤ 1000000000000000000 ∧ Q (.int (Th.chAt cs n)) H
end
section
variable {P : Program} {w : World} {K : PySem.W.Frag} {mg : Str → Option Value} {base : Heap} {a : Ad}
theorem ok_Setting_init (T : Txt K mg a) : FnOk P w K mg base CX0 2 a.f_Setting_init a.d_Setting_init ["self", "low", "high"] (spSti K) := by
  have G_can_be_thresholds : FnOk P w K mg base CX0 1 a.f_can_be_thresholds a.d_can_be_thresholds ["low", "high"] spCb := ok_can_be_thresholds T
  refine T.F_Setting_init.ok sc_Setting_init (fun vs H Q E h => ?_) (fun cdv A outer s H vs Q E hr h => ?_)
  · obtain ⟨x, C, dx, lo, hi, rfl, _⟩ := h
    rfl
  · obtain ⟨x, C, dx, lo, hi, rfl, hx, cl, n1, n2, tk, k⟩ := h
    refine ⟨_, (pss_cons (ps_if (pt_not (pt_val (pe_call G_can_be_thresholds (hr.mono (by decide)) (by rfl) T.mg_can_be_thresholds T.F_can_be_thresholds.kp (b_can_be_thresholds T) .nil pass0 (pa_cons (pv 1) (pa_cons (pv 2) pa_nil))))) (pss_one (ps_never)) pss_nil)
      (pss_cons (ps_fld (pv 0) (pv 1) rfl)
      (pss_one (ps_fld (pv 0) (pv 2) rfl)))), ?_⟩
    refine ⟨_, rfl, _, rfl, lo, hi, rfl, ?_⟩
    have tk : decide (-1000000000000 ≤ lo ∧ lo ≤ hi ∧ hi ≤ 1000000000000) = true := tk
    rw [tk]
    refine ⟨_, rfl, ?_⟩
    refine ifF rfl ?_
    refine ⟨_, rfl, _, rfl, x, C, dx, _, rfl, hx, cl, n1, by show 0 < 1000; decide, ?_⟩
    refine ⟨_, rfl, _, rfl, x, C, dx, _, rfl, upd_same, cl, n2, by show 1 < 1000; decide, ?_⟩
    exact k _ (Fr1.upd.trans Fr1.upd) (by rw [upd_same]; rfl)
theorem ok_Setting_thresholds (T : Txt K mg a) : FnOk P w K mg base CX0 1 a.f_Setting_thresholds a.d_Setting_thresholds ["self", "tick"] (spStt K) := by
  refine T.F_Setting_thresholds.ok sc_Setting_thresholds (fun vs H Q E h => ?_) (fun cdv A outer s H vs Q E hr h => ?_)
  · obtain ⟨z, C, dx, t, fs, lo, hi, rfl, _⟩ := h
    rfl
  · obtain ⟨z, C, dx, t, fs, lo, hi, rfl, hz, cl, n1, n2, l1, l2, k⟩ := h
    refine ⟨_, (pss_one (ps_ret (pe_tup (pa_cons (pe_fld (pv 0) rfl) (pa_cons (pe_fld (pv 0) rfl) pa_nil))))), ?_⟩
    refine ⟨_, rfl, z, C, dx, _, _, rfl, hz, cl, n1, l1, _, rfl, z, C, dx, _, _, rfl, hz, cl, n2, l2, by show 2 ≤ sizeLine; decide, fun p np => ?_⟩
    exact k p _ (same_upd np) np upd_same
theorem ok_Setting_lets_switch (T : Txt K mg a) : FnOk P w K mg base CX0 1 a.f_Setting_lets_switch a.d_Setting_lets_switch ["self", "tick", "last"] spStl := by
  refine T.F_Setting_lets_switch.ok sc_Setting_lets_switch (fun vs H Q E h => ?_) (fun cdv A outer s H vs Q E hr h => ?_)
  · obtain ⟨x, t, l, rfl, _⟩ := h
    rfl
  · obtain ⟨x, t, l, rfl, k⟩ := h
    exact ⟨_, (pss_one (ps_ret pe_bl)), k⟩
theorem ok_Weather_getitem (T : Txt K mg a) : FnOk P w K mg base CX0 2 a.f_Weather_getitem a.d_Weather_getitem ["self", "at"] (spWgt a) := by
  have G_check_number : FnOk P w K mg base CX0 1 a.f_check_number a.d_check_number ["number", "least", "greatest"] spNum := ok_check_number T
  refine T.F_Weather_getitem.ok sc_Weather_getitem (fun vs H Q E h => ?_) (fun cdv A outer s H vs Q E hr h => ?_)
  · obtain ⟨z, cs, n, rfl, _⟩ := h
    rfl
  · obtain ⟨z, cs, n, rfl, ⟨dz, t, hz, ht⟩, c, n18, k⟩ := h
    refine ⟨_, (pss_cons (ps_expr (pe_call G_check_number (hr.mono (by decide)) (by rfl) T.mg_check_number T.F_check_number.kp (b_check_number T) .nil pass0 (pa_cons (pv 1) (pa_cons pe_int (pa_cons (pe_glob (v := .int 1000000000000000000) rfl T.mg_MOST_TICKS.choose_spec ⟨_, rfl⟩) pa_nil)))))
      (pss_one (ps_ret (pe_ix ix_tup (pe_fld (pv 0) rfl) (pe_op op_mod (pv 1) (pe_callB call_len_seq (by rfl) T.z_len PySem.boot_len (pa_cons (pe_fld (pv 0) rfl) pa_nil))) (fun _ _ => rfl))))), ?_⟩
    have n1 : (cs.map V.int).length = cs.length := List.length_map _
    have c1 := c.1
    refine ⟨_, rfl, _, _, _, rfl, by omega, by omega, ?_⟩
    refine ⟨_, rfl, z, _, dz, _, _, rfl, hz, T.cl_Weather, T.na_Weather__changes, rfl, _, rfl, _, rfl, z, _, dz, _, _, rfl, hz, T.cl_Weather, T.na_Weather__changes, rfl, t, _, rfl, .inr (SqT.of ht), _, _, rfl, rfl, by rw [n1]; omega, t, _, _, _, rfl, rfl, SqT.of ht, ?_, k⟩
    have l : n % cs.length < cs.length := Nat.mod_lt _ (by omega)
    have e : (n : Int) % (((cs.map V.int).length : Nat) : Int) = ((n % cs.length : Nat) : Int) := by rw [n1]; rfl
    rw [e]
    refine at_int (Int.natCast_nonneg _) ?_
    show (cs.map V.int)[n % cs.length]? = _
    rw [List.getElem?_map, List.getElem?_eq_getElem l]
    simp [Th.chAt, List.getD, List.getElem?_eq_getElem l]
theorem ok_RestSetting_lets_switch (T : Txt K mg a) : FnOk P w K mg base CX0 1 a.f_RestSetting_lets_switch a.d_RestSetting_lets_switch ["self", "tick", "last"] (spRsl a) := by
  refine T.F_RestSetting_lets_switch.ok sc_RestSetting_lets_switch (fun vs H Q E h => ?_) (fun cdv A outer s H vs Q E hr h => ?_)
  · obtain ⟨z, t, l, lo, hi, r, rfl, _⟩ := h
    rfl
  · obtain ⟨z, t, l, lo, hi, r, rfl, ⟨dx, hz⟩, k⟩ := h
    refine ⟨_, (pss_one (ps_ret (pe_or (pe_cmpR op_isN (pv 2) pe_non (nomark _)) (pe_one (pe_cmpR op_gt (pe_op op_sub (pv 1) (pv 2)) (pe_fld (pv 0) rfl) (nomark _)))))), ?_⟩
    cases l with
    | none => exact ⟨_, rfl, rfl, true, rfl, ifT rfl k⟩
    | some l =>
      refine ⟨_, rfl, rfl, false, rfl, ifF rfl ?_⟩
      refine ⟨_, rfl, _, rfl, _, _, rfl, rfl, _, rfl, z, _, dx, _, _, rfl, hz, T.cl_RestSetting, T.na_RestSetting__rest, rfl, _, _, rfl, rfl, ?_⟩
      exact k
theorem ok_first_invalid_part (T : Txt K mg a) : FnOk P w K mg base CX0 2 a.f_first_invalid_part a.d_first_invalid_part ["length", "parts"] spFip := by
  have G_can_be_thresholds : FnOk P w K mg base CX0 1 a.f_can_be_thresholds a.d_can_be_thresholds ["low", "high"] spCb := ok_can_be_thresholds T
  refine T.F_first_invalid_part.ok sc_first_invalid_part (fun vs H Q E h => ?_) (fun cdv A outer s H vs Q E hr h => ?_)
  · obtain ⟨t, L, qs, ps, rfl, _⟩ := h
    rfl
  · obtain ⟨t, L, qs, ps, rfl, ht, pa, k⟩ := h
    refine ⟨_, (pss_cons (ps_set (i := 2) sc_first_invalid_part.nd rfl (Or.inl rfl) (pe_un un_neg pe_int))
      (pss_cons (ps_for PassesOwn.never rfl (pi_enumT (by rfl) T.z_enumerate (pa_cons (pv 1) pa_nil)) (pg_tup rfl (pgs_cons (pg_name (i := 3) sc_first_invalid_part.nd rfl (Or.inl rfl)) (pgs_cons (pg_tup rfl (pgs_cons (pg_name (i := 4) sc_first_invalid_part.nd rfl (Or.inl rfl)) (pgs_cons (pg_name (i := 5) sc_first_invalid_part.nd rfl (Or.inl rfl)) (pgs_cons (pg_name (i := 6) sc_first_invalid_part.nd rfl (Or.inl rfl)) pgs_nil)))) pgs_nil)))
        (pss_cons (ps_if (PW.pt (pw_and (pt_cmpR op_eq (pv 3) pe_int (nomark _)) (pw_and1 (pt_cmpR op_ne (pv 4) pe_int (nomark _))))) (pss_one (ps_ret (pv 3))) pss_nil)
      (pss_cons (ps_if (PW.pt (pw_or (pt_not (pt_chain op_lt op_lt (pv 2) (pv 4) (pv 0))) (pw_or1 (pt_not (pt_val (pe_call G_can_be_thresholds (hr.mono (by decide)) (by rfl) T.mg_can_be_thresholds T.F_can_be_thresholds.kp (b_can_be_thresholds T) .nil pass0 (pa_cons (pv 5) (pa_cons (pv 6) pa_nil)))))))) (pss_one (ps_ret (pv 3))) pss_nil)
      (pss_one (ps_set (i := 2) sc_first_invalid_part.nd rfl (Or.inl rfl) (pv 4))))))
      (pss_one (ps_ret (pe_ifExp (pt_cmpR op_eq (pe_callB call_len_seq (by rfl) T.z_len PySem.boot_len (pa_cons (pv 1) pa_nil)) pe_int (nomark _)) pe_int pe_non))))), ?_⟩
    refine ⟨_, rfl, ?_⟩
    have n1 : (qs.map V.ref).length = ps.length := by rw [List.length_map]; exact pa.1
    refine ⟨_, rfl, t, _, rfl, SqT.of ht, for_enumT (fun i σ H' => (∃ (b : Int) (u3 u4 u5 u6 : Option V), σ = [some (.int L), some (.ref t), some (.int b), u3, u4, u5, u6] ∧ (ps ≠ [] → fip L ps = fipGo L i b (ps.drop i))) ∧ Same H H') ⟨⟨-1, _, _, _, _, rfl, fun n => by unfold fip; rw [if_neg n]; rfl⟩, Same.refl _⟩ (fun i σ H' ⟨_, s⟩ => SqT.of (s _ _ ht)) ?_ ?_⟩
    · rintro i v σ H' tt hi' ⟨⟨b, u3, u4, u5, u6, rfl, inv⟩, sm⟩ htt
      obtain ⟨q, p, rfl, hp, hq⟩ := (pa.same sm).at hi'
      have sm2 : Same H (upd H' tt (.tup [.int (i : Nat), .ref q])) := sm.trans (same_upd htt)
      have hq2 := same_upd (o := .tup [.int (i : Nat), .ref q]) htt _ _ hq
      have ne : ps ≠ [] := fun z => by rw [z] at hp; simp at hp
      have inv := (inv ne).trans (fipGo_drop hp)
      refine ⟨tt, _, rfl, SqT.of upd_same, rfl, _, _, rfl, _, _, rfl, q, _, rfl, SqT.of hq2, rfl, _, _, rfl, _, _, rfl, _, _, rfl, rfl, rfl, ?_⟩
      have tail : (¬ (i = 0 ∧ p.1 ≠ 0)) → tSeq (tIfS (tOr (tNot (tTest (tChain (rI0 fun i j => .bl (decide (i < j))) (rI0 fun i j => .bl (decide (i < j))) (tVar 2) (tVar 4) (tVar 0)))) (tNot (tB (tCall spCb [] E0 (tCons (tVar 5) (tCons (tVar 6) tNil)))))) (tRet (tVar 3)) tNext) (tAsg (tVar 4) (gName 2))
          { nx := fun σ H' => (∃ (b : Int) (u3 u4 u5 u6 : Option V), σ = [some (.int L), some (.ref t), some (.int b), u3, u4, u5, u6] ∧ (ps ≠ [] → fip L ps = fipGo L (i + 1) b (ps.drop (i + 1)))) ∧ Same H H', ct := fun σ H' => (∃ (b : Int) (u3 u4 u5 u6 : Option V), σ = [some (.int L), some (.ref t), some (.int b), u3, u4, u5, u6] ∧ (ps ≠ [] → fip L ps = fipGo L (i + 1) b (ps.drop (i + 1)))) ∧ Same H H', rt := Q } [some (.int L), some (.ref t), some (.int b), some (.int (i : Nat)), some (.int p.1), some (.int p.2.1), some (.int p.2.2)] (upd H' tt (.tup [.int (i : Nat), .ref q])) := fun c0 => by
        rw [if_neg c0] at inv
        refine seq_one (or_step ?_)
        refine ⟨_, rfl, _, rfl, _, _, rfl, rfl, _, rfl, ?_⟩
        have bad : (¬ (b < p.1 ∧ p.1 < L) ∨ thrOk p.2.1 p.2.2 = false) → Q (.int (i : Nat)) (upd H' tt (.tup [.int (i : Nat), .ref q])) := fun c => by
          rw [if_pos c] at inv
          have := k _ sm2
          rw [inv] at this
          exact this
        by_cases c1 : b < p.1
        · refine ifT (dT c1) ⟨_, rfl, _, _, rfl, rfl, _, rfl, ?_⟩
          by_cases c2 : p.1 < L
          · refine ifF (nF c2) ?_
            refine ⟨_, rfl, _, rfl, _, _, rfl, ?_⟩
            by_cases c3 : thrOk p.2.1 p.2.2 = true
            · have c3' : decide (-1000000000000 ≤ p.2.1 ∧ p.2.1 ≤ p.2.2 ∧ p.2.2 ≤ 1000000000000) = true := c3
              rw [c3']
              refine ⟨_, rfl, ifF rfl ?_⟩
              rw [if_neg (fun z => z.elim (fun y => y ⟨c1, c2⟩) (fun y => by rw [c3] at y; cases y))] at inv
              exact ⟨_, rfl, ⟨p.1, _, _, _, _, rfl, fun _ => inv⟩, sm2⟩
            · have c3 : thrOk p.2.1 p.2.2 = false := by simpa using c3
              have c3' : decide (-1000000000000 ≤ p.2.1 ∧ p.2.1 ≤ p.2.2 ∧ p.2.2 ≤ 1000000000000) = false := c3
              rw [c3']
              exact ⟨_, rfl, ifT rfl ⟨_, rfl, bad (.inr c3)⟩⟩
          · exact ifT (nT c2) (ifT rfl ⟨_, rfl, bad (.inl fun z => c2 z.2)⟩)
        · exact ifF (dF c1) ⟨_, rfl, ifT rfl (ifT rfl ⟨_, rfl, bad (.inl fun z => c1 z.1)⟩)⟩
      refine seq_one (and_stp ?_)
      refine ⟨_, rfl, rfl, _, rfl, ?_⟩
      by_cases c0 : i = 0
      · subst c0
        refine ifT (dT rfl) ⟨_, rfl, rfl, _, rfl, ?_⟩
        by_cases c1 : p.1 = 0
        · refine ifF (ndF (by rw [c1])) ?_
          exact tail fun z => z.2 c1
        · refine ifT (by rw [dF (fun z => c1 (by injection z))]; rfl) ⟨_, rfl, ?_⟩
          rw [if_pos ⟨rfl, c1⟩] at inv
          have := k _ sm2
          rw [inv] at this
          exact this
      · refine ifF (dF (fun z => c0 (by injection z with z; omega))) (ifF rfl ?_)
        exact tail fun z => c0 z.1
    · rintro σ H' ⟨⟨b, u3, u4, u5, u6, rfl, inv⟩, sm⟩
      refine ⟨_, rfl, t, _, rfl, .inr (SqT.of (sm _ _ ht)), rfl, _, rfl, ?_⟩
      by_cases e0 : ps = []
      · subst e0
        have := k _ sm
        exact ifT (dT (by rw [n1]; rfl)) this
      · refine ifF (dF (by intro q; injection q with q; rw [n1] at q; exact e0 (List.eq_nil_of_length_eq_zero (by omega)))) ?_
        have := k _ sm
        rw [inv e0, n1, List.drop_length] at this
        exact this
theorem ok_HourSetting_init (T : Txt K mg a) : FnR P w K mg base CX0 3 a.f_HourSetting_init (spHos a) := by
  have G_first_invalid_part : FnOk P w K mg base CX0 2 a.f_first_invalid_part a.d_first_invalid_part ["length", "parts"] spFip := ok_first_invalid_part T
  obtain ⟨oc, od, kV, doc, pm, an, cdv, ct, osl, e, lk, hcd⟩ := T.F_HourSetting_init.ex
  rw [e] at lk
  refine fn_star (ps := ["self", "length"]) (pv := "parts") (sp := spHoi a) lk hcd sc_HourSetting_init cxUp_none (bind_star2 (B := fun us => bindArgs (PySem.W.fnOf "__init__" "HourSetting.__init__" (defArgs s_HourSetting_init) (defBody s_HourSetting_init) (defScope s_HourSetting_init) .none kV doc pm an cdv ct) ⟨us, []⟩) (fun _ _ => rfl) (fun _ _ _ _ => rfl)) (fun A outer s H vs Q E hr h => ?_)
  obtain ⟨x, dx, t, L, qs, ps, rfl, hx, ht, pa, l1, l24, fn, k⟩ := h
  obtain ⟨tt, cvT⟩ := T.cv_HourSetting_MAX_LENGTH
  have ntx : t ≠ x := ne_of ht hx (fun z => nomatch z)
  refine ⟨_, PSs.nox ((pss_cons (ps_if (pt_not (pt_chain op_le op_le pe_int (pv 1) (pe_con (pv 0) rfl))) (pss_one (ps_never)) pss_nil)
      (pss_cons (ps_set (i := 3) sc_HourSetting_init.nd rfl (Or.inl rfl) (pe_call G_first_invalid_part (hr.mono (by decide)) (by rfl) T.mg_first_invalid_part T.F_first_invalid_part.kp (b_first_invalid_part T) .nil pass0 (pa_cons (pv 1) (pa_cons (pv 2) pa_nil))))
      (pss_cons (ps_if (pt_cmpR op_notN (pv 3) pe_non (nomark _)) (pss_one (ps_never)) pss_nil)
      (pss_cons (ps_fld (pv 0) (pv 1) rfl)
      (pss_one (ps_fld (pv 0) (pv 2) rfl))))))), ?_⟩
  refine ⟨_, rfl, _, _, rfl, rfl, _, rfl, ifT (dT (by omega)) ?_⟩
  refine ⟨_, rfl, x, _, dx, _, _, _, rfl, hx, T.cl_HourSetting, cvT, rfl, _, _, rfl, rfl, _, rfl, ifF (nF (by omega)) ?_⟩
  refine ⟨_, rfl, _, rfl, t, _, qs, ps, rfl, ht, pa, fun H1 s1 => ?_⟩
  rw [fn]
  refine ⟨_, rfl, rfl, _, rfl, ifF rfl ?_⟩
  refine ⟨_, rfl, _, rfl, x, _, dx, _, rfl, s1 _ _ hx, T.cl_HourSetting, T.na_HourSetting__length, by show 0 < 1000; decide, ?_⟩
  refine ⟨_, rfl, _, rfl, x, _, dx, _, rfl, upd_same, T.cl_HourSetting, T.na_HourSetting__parts, by show 1 < 1000; decide, ?_⟩
  have f1 : Fr1 x H H1 := Fr1.of s1
  refine k _ ((f1.trans Fr1.upd).trans Fr1.upd) ⟨l1, fn, dx, t, qs, by rw [upd_same]; rfl, ?_, ?_⟩
  · rw [upd_ne ntx, upd_ne ntx]; exact s1 _ _ ht
  · refine ⟨pa.1, fun i q p a b => ?_⟩
    have hq := s1 _ _ (pa.2 i q p a b)
    have nq : q ≠ x := ne_of hq (s1 _ _ hx) (fun z => nomatch z)
    rw [upd_ne nq, upd_ne nq]; exact hq
theorem ok_HourSetting_thresholds (T : Txt K mg a) : FnOk P w K mg base CX0 1 a.f_HourSetting_thresholds a.d_HourSetting_thresholds ["self", "tick"] (spHot a) := by
  refine T.F_HourSetting_thresholds.ok sc_HourSetting_thresholds (fun vs H Q E h => ?_) (fun cdv A outer s H vs Q E hr h => ?_)
  · obtain ⟨z, t, L, ps, rfl, _⟩ := h
    rfl
  · obtain ⟨z, t, L, ps, rfl, ⟨l1, fn, dx, p, qs, hz, hp, pa⟩, pl, k⟩ := h
    refine ⟨_, (pss_cons (ps_set (i := 2) sc_HourSetting_thresholds.nd rfl (Or.inr rfl) (pe_op op_mod (pv 1) (pe_fld (pv 0) rfl)))
      (pss_cons (ps_setLc (i := 3) (own := [("begin", 4), ("low", 5), ("high", 6)]) rfl sc_HourSetting_thresholds.nd rfl rfl (sw_true rfl rfl rfl (by decide +kernel)) (pi_tup (pe_fld (pv 0) rfl)) (blkOk_by (own := [("begin", 4), ("low", 5), ("high", 6)]) (N := ["self", "tick", "hour", "begun", "begin", "low", "high"]) (sc := (defScope s_HourSetting_thresholds)) (by decide +kernel)) (fun _ _ _ _ _ => (show PG _ _ (gTup K 3 (gCons (gName 4) (gCons (gName 5) (gCons (gName 6) gNil)))) from pg_tup rfl (pgs_cons (pg_name (i := 4) sc_HourSetting_thresholds.nd rfl (Or.inl rfl) (Or.inr rfl)) (pgs_cons (pg_name (i := 5) sc_HourSetting_thresholds.nd rfl (Or.inl rfl) (Or.inr rfl)) (pgs_cons (pg_name (i := 6) sc_HourSetting_thresholds.nd rfl (Or.inl rfl) (Or.inr rfl)) pgs_nil))))) (fun _ _ _ _ _ => pts_one (pt_cmpR op_le (pv 4) (pv 2) (nomark _))) (fun _ _ _ _ _ => (pe_tup (pa_cons (pv 5) (pa_cons (pv 6) pa_nil)))))
      (pss_one (ps_ret (pe_ix ix_list (pv 3) (pe_un un_neg pe_int) (fun _ _ => rfl)))))), ?_⟩
    refine ⟨_, rfl, _, rfl, z, _, dx, _, _, rfl, hz, T.cl_HourSetting, T.na_HourSetting__length, rfl, _, _, rfl, rfl, by omega, ?_⟩
    refine ⟨_, rfl, z, _, dx, _, _, rfl, hz, T.cl_HourSetting, T.na_HourSetting__parts, rfl, p, rfl, ⟨_, SqT.of hp⟩, fun D nD => lc_tup (K := K) (a := p) (xs := qs.map V.ref) (fun i H2 => Same H H2 ∧ ∃ rs, H2 D = some (.lst (rs.map V.ref)) ∧ PrsAt H2 rs (hourF L ps t i)) ⟨same_upd nD, [], upd_same, rfl, fun j r q e => by simp at e⟩ (fun j H2 _ q => SqT.of (q.1 _ _ hp)) ?_ ?_⟩
    · rintro i v H2 hx ⟨s2, rs, hD, pr⟩
      obtain ⟨q, pp, rfl, hpp, hq⟩ := (pa.same s2).at hx
      refine ⟨q, _, rfl, SqT.of hq, rfl, _, _, rfl, _, _, rfl, _, _, rfl, rfl, ?_⟩
      have hs := hourF_succ (L := L) (t := t) hpp
      refine ⟨rfl, _, rfl, _, rfl, _, _, rfl, rfl, _, rfl, ?_⟩
      by_cases c : pp.1 ≤ ((t % L : Nat) : Int)
      · refine ifT (dT c) ⟨_, rfl, _, rfl, by show 2 ≤ sizeLine; decide, fun r nr => ?_⟩
        have nDr : D ≠ r := ne_of_none hD nr
        have hD3 : (upd H2 r (.tup [.int pp.2.1, .int pp.2.2])) D = some (.lst (rs.map V.ref)) := by rw [upd_ne nDr]; exact hD
        have le : rs.length ≤ ps.length := by
          rw [pr.1]
          unfold hourF
          rw [List.length_map]
          exact Nat.le_trans (List.length_filter_le _ _) (by rw [List.length_take]; omega)
        refine ⟨_, hD3, by rw [List.length_map]; exact small1000 (by omega), lcStep' nD (s2.trans (same_upd nr)), rs ++ [r], by rw [upd_same, List.map_append]; rfl, ?_⟩
        rw [hs, if_pos c]
        refine ⟨by rw [List.length_append, List.length_append, pr.1]; rfl, fun j r' q' e1 e2 => ?_⟩
        have off : ∀ {b : Addr}, (∃ xs, H2 b = some (.tup xs)) → b ≠ D ∧ b ≠ r := fun {b} ⟨xs, e⟩ => ⟨ne_of e hD (fun z => nomatch z), ne_of_none e nr⟩
        rcases Nat.lt_or_ge j rs.length with l | g
        · rw [List.getElem?_append_left l] at e1
          rw [List.getElem?_append_left (by rw [← pr.1]; exact l)] at e2
          have e := pr.2 j r' q' e1 e2
          obtain ⟨o1, o2⟩ := off ⟨_, e⟩
          rw [upd_ne o1, upd_ne o2]; exact e
        · have ej : j = rs.length := by
            have := (List.getElem?_eq_some_iff.mp e1).1
            rw [List.length_append, List.length_singleton] at this
            omega
          subst ej
          rw [List.getElem?_append_right (Nat.le_refl _), Nat.sub_self] at e1
          rw [List.getElem?_append_right (by rw [pr.1]; exact Nat.le_refl _), pr.1, Nat.sub_self] at e2
          cases e1
          cases e2
          rw [upd_ne (Ne.symm nDr), upd_same]
      · refine ifF (dF c) ⟨s2, rs, hD, ?_⟩
        rw [hs, if_neg c]; exact pr
    · rintro H2 ⟨s2, rs, hD, pr⟩
      rw [List.length_map, pa.1] at pr
      obtain ⟨p0, r0, e0, b0⟩ := fip_none fn
      have ne : hourF L ps t ps.length ≠ [] := by
        unfold hourF
        rw [List.take_length, e0, List.filter_cons_of_pos (by rw [b0]; exact decide_eq_true (Int.natCast_nonneg _))]
        exact List.cons_ne_nil _ _
      have lr : 1 ≤ rs.length := by
        rw [pr.1]
        exact List.length_pos_iff.mpr ne
      obtain ⟨r, er⟩ : ∃ r, rs[rs.length - 1]? = some r := ⟨_, List.getElem?_eq_getElem (by omega)⟩
      have eq : (hourF L ps t ps.length)[rs.length - 1]? = some (Th.hourT L ps t) := by
        rw [pr.1, ← List.getLast?_eq_getElem?]
        unfold Th.hourT
        have e : hourF L ps t ps.length = (ps.filter fun p => decide (p.1 ≤ ((t % L : Nat) : Int))).map (·.2) := by unfold hourF; rw [List.take_length]
        rw [← e]
        cases q : hourF L ps t ps.length with
        | nil => exact absurd q ne
        | cons x y => rw [List.getLast?_eq_some_getLast (List.cons_ne_nil _ _)]; rfl
      refine ⟨_, rfl, _, rfl, D, _, _, _, rfl, rfl, SqL.of hD, ?_, k r H2 s2 (pr.2 _ _ _ er eq)⟩
      exact atI_last er
theorem ok_RestSetting_init (T : Txt K mg a) (SW : StC P K mg a) : FnOk P w K mg base CX0 3 a.f_RestSetting_init a.d_RestSetting_init ["self", "low", "high", "rest"] (spRsi a) := by
  have G_Setting_init : FnOk P w K mg base CX0 2 a.f_Setting_init a.d_Setting_init ["self", "low", "high"] (spSti K) := ok_Setting_init T
  obtain ⟨oc, od, osl, doc, pm, an, cda, cc, ct, e, lk, hcd, ⟨cl, cld, csl, hcell⟩, SU⟩ := SW.ini
  rw [e]
  rw [e] at lk SU
  refine fn_super (N := ["self", "low", "high", "rest", "__class__"]) lk hcd sc_RestSetting_init hcell (fun vs H Q E h => ?_) (fun A outer s H vs Q E hr h => ?_)
  · obtain ⟨x, dx, lo, hi, r, rfl, _⟩ := h
    rfl
  · obtain ⟨x, dx, lo, hi, r, rfl, hx, tk, r0, r1, k⟩ := h
    refine ⟨_, (psAt_expr (pe_super SU (toR G_Setting_init (b_Setting_init T)) (hr.mono (by decide)) pass0 (pa_cons (pv 1) (pa_cons (pv 2) pa_nil)) rfl rfl rfl rfl rfl rfl rfl rfl rfl rfl rfl (by decide) rfl rfl ⟨_, rfl⟩) (pss_cons (ps_if (pt_not (pt_chain op_le op_le pe_int (pv 3) (pe_glob (v := .int 1000) rfl T.mg_MOST_REST.choose_spec ⟨_, rfl⟩))) (pss_one (ps_never)) pss_nil)
      (pss_one (ps_fld (pv 0) (pv 3) rfl))) rfl), ?_⟩
    refine ⟨x, dx, _, rfl, hx, _, rfl, _, rfl, x, _, dx, lo, hi, rfl, hx, T.cl_RestSetting, T.na_RestSetting__low, T.na_RestSetting__high, tk, fun H1 f1 h1 => ?_⟩
    refine ⟨_, rfl, _, _, rfl, rfl, _, rfl, ifT (dT r0) ?_⟩
    refine ⟨_, _, rfl, rfl, _, rfl, ifF (nF r1) ?_⟩
    refine ⟨_, rfl, _, rfl, x, _, dx, _, rfl, h1, T.cl_RestSetting, T.na_RestSetting__rest, by show 2 < 1000; decide, ?_⟩
    exact k _ (f1.trans Fr1.upd) ⟨dx, by rw [upd_same]; rfl⟩
theorem ok_RestSetting_thresholds (T : Txt K mg a) (SW : StC P K mg a) : FnOk P w K mg base CX0 2 a.f_RestSetting_thresholds a.d_RestSetting_thresholds ["self", "tick"] (spRst a) := by
  have G_Setting_thresholds : FnOk P w K mg base CX0 1 a.f_Setting_thresholds a.d_Setting_thresholds ["self", "tick"] (spStt K) := ok_Setting_thresholds T
  obtain ⟨oc, od, osl, doc, pm, an, cda, cc, ct, e, lk, hcd, ⟨cl, cld, csl, hcell⟩, SU⟩ := SW.thr
  rw [e]
  rw [e] at lk SU
  refine fn_super (N := ["self", "tick", "__class__"]) lk hcd sc_RestSetting_thresholds hcell (fun vs H Q E h => ?_) (fun A outer s H vs Q E hr h => ?_)
  · obtain ⟨z, t, lo, hi, r, rfl, _⟩ := h
    rfl
  · obtain ⟨z, t, lo, hi, r, rfl, ⟨dx, hz⟩, k⟩ := h
    refine ⟨_, (psAt_ret (pe_super SU (toR G_Setting_thresholds (b_Setting_thresholds T)) (hr.mono (by decide)) pass0 (pa_cons (pv 1) pa_nil) rfl rfl rfl rfl rfl rfl rfl rfl rfl rfl rfl (by decide) rfl rfl ⟨_, rfl⟩)), ?_⟩
    exact ⟨z, dx, _, rfl, hz, _, rfl, z, _, dx, _, _, lo, hi, rfl, hz, T.cl_RestSetting, T.na_RestSetting__low, T.na_RestSetting__high, rfl, rfl, fun p H1 s1 _ e1 => k p H1 s1 e1⟩
theorem rest_kb (SW : StC P K mg a) : KBn K a.d_RestSetting_init ["self", "low", "high", "rest"] 3 ["rest"] (fun us ws => us ++ ws) (fun vs zs => vs ++ zs) := by
  obtain ⟨oc, od, osl, doc, pm, an, cda, cc, ct, e, lk, hcd, ⟨cl, cld, csl, hcell⟩, SU⟩ := SW.ini
  rw [e]
  exact ⟨fun s us ws X l1 l2 => match us, ws, l1, l2 with | [_, _, _], [_], _, _ => .of_eq rfl, fun r1 r2 => r1.append r2⟩
end
end W6

namespace W6
open PySem PySem.Spec PyProof.Rows L2 Ru StX LamX
section
variable {P : Program} {w : World} {K : PySem.W.Frag} {mg : Str → Option Value} {base : Heap}
theorem gokY {x qual : Str} {st : Stmt} {f : Addr} {fd : FuncData} {N ps : List Str} {k : Nat} {sp : SpY} (F : Fun K x qual st f fd) (S : GScope N ps (defScope st)) (len : ∀ vs H Yd Qd E, sp vs H Yd Qd E → vs.length = ps.length)
    (hbody : ∀ (cdv : Value) (A : Around) (outer : List Env) (s : Shared) (H : Hp) (vs : List V) (Yd Qd : List V → Hp → Prop) (E : XK) (pn : List (Addr × Obj)), Room k (A.deeper (envOfC qual (defScope st) s.heap.objs.size f cdv)) → sp vs H Yd Qd E →
      ∃ t, GSsy (gcxOf P w K mg base N qual (defScope st) f cdv A outer s H E pn) (xfG P w qual (defScope st) f cdv A outer s H E pn) (defBody st) t ∧ t { nx := fun ys _ H' => Qd ys H', rt := fun ys v H' => v = .non ∧ Qd ys H', yd := Yd } [] (start N vs) H) : GFnY P w K mg base (k + 1) f fd ps sp := by
  obtain ⟨oc, od, kV, doc, pm, an, cdv, ct, osl, rfl, lk, hcd⟩ := F.ex
  exact gfnY_of lk hcd S len fun A outer s H vs Yd Qd E pn hr hsp => hbody cdv A outer s H vs Yd Qd E pn hr hsp
end
theorem small10k {n : Nat} (h : n ≤ 10000) : n < sizeLine := Nat.lt_of_le_of_lt h (by decide)
theorem gyfor_range {lo : Int} {n : Nat} {g : TG} {tb : TGy} {D : GEy} {ys : List V} {σ : L2.St} {H : Hp} (Pv : Nat → List V → L2.St → Hp → Prop) (h0 : Pv 0 ys σ H)
    (hs : ∀ i ys σ H, i < n → Pv i ys σ H → g (.int (lo + i)) σ H fun σ2 H2 => tb { D with nx := Pv (i + 1), ct := Pv (i + 1), bk := D.nx } ys σ2 H2) (hd : ∀ ys σ H, Pv n ys σ H → D.nx ys σ H) :
    ∃ W : Nat → Nat → List V → L2.St → Hp → Prop, (∃ m, W 0 m ys σ H) ∧ ∀ i m ys σ H, W i m ys σ H →
      ((Itr lo n).stop i H ∧ D.nx ys σ H) ∨ ((Itr lo n).go i H ∧ ∃ N : List V → L2.St → Hp → Prop, (∀ ys' σ' H', N ys' σ' H' → ∃ m', m' < m ∧ W (i + 1) m' ys' σ' H') ∧ ∀ x H', (Itr lo n).yld i H x H' → g x σ H' fun σ2 H2 => tb { D with nx := N, ct := N, bk := D.nx } ys σ2 H2) := by
  refine ⟨fun i m ys σ H => m = n - i ∧ i ≤ n ∧ Pv i ys σ H, ⟨n, by simp, Nat.zero_le _, h0⟩, ?_⟩
  rintro i m ys σ H ⟨rfl, hi, p⟩
  by_cases hlt : i < n
  · refine .inr ⟨hlt, Pv (i + 1), fun ys' σ' H' p' => ⟨n - (i + 1), by omega, rfl, hlt, p'⟩, fun x H' y => ?_⟩
    obtain ⟨e, y⟩ := y
    subst e y
    exact hs i ys σ _ hlt p
  · have e : i = n := by omega
    subst e
    exact .inl ⟨Nat.le_refl _, hd ys σ H p⟩
theorem y_if {c : TT} {A : TS} {u : TGy} {D : GEy} {ys : List V} {σ : L2.St} {H : Hp} (C : L2.St → Hp → Prop) (h1 : ∀ D' : Ends, (∀ σ H, C σ H → D'.nx σ H) → tIfS c A tNext D' σ H) (h2 : ∀ σ H, C σ H → u D ys σ H) : tYThen (tPlainY (tIfS c A tNext)) u D ys σ H :=
  h1 (GEy.at { D with nx := fun ys' σ' H' => u D ys' σ' H' } ys) fun σ H c => h2 σ H c
theorem y_asgN {te : TE} {i : Nat} {u : TGy} {D : GEy} {ys : List V} {σ : L2.St} {H : Hp} (h : te σ H fun x H1 => u D ys (σ.set i (some x)) H1) : tYThen (tPlainY (tAsg te (gName i))) u D ys σ H := h
theorem y_asg2 {K : PySem.W.Frag} {te : TE} {i j : Nat} {u : TGy} {D : GEy} {ys : List V} {σ : L2.St} {H : Hp} (C : V → V → Hp → Prop) (h : ∀ Q7 : VK, (∀ p x y H1, C x y H1 → SqT K H1 p [x, y] → Q7 (.ref p) H1) → te σ H Q7) (h2 : ∀ x y H1, C x y H1 → u D ys ((σ.set i (some x)).set j (some y)) H1) :
    tYThen (tPlainY (tAsg te (gTup K 2 (gCons (gName i) (gCons (gName j) gNil))))) u D ys σ H := by
  refine h _ fun p x y H1 c e => ⟨p, _, rfl, e, rfl, _, _, rfl, _, _, rfl, rfl, h2 x y H1 c⟩
/-! settings of any kind -/
def spThr (At : Hp → Addr → Th.Sg → Prop) : Sp := fun vs H Q _ => ∃ (z : Addr) (t : Nat) (S : Th.Sg), vs = [.ref z, .int t] ∧ At H z S ∧ ∀ p H', Same H H' → H' p = some (.tup [.int (S.thr t).1, .int (S.thr t).2]) → Q (.ref p) H'
def spLet (At : Hp → Addr → Th.Sg → Prop) : Sp := fun vs H Q _ => ∃ (z : Addr) (t : Nat) (l : Option Nat) (S : Th.Sg), vs = [.ref z, .int t, optV l] ∧ At H z S ∧ Q (.bl (S.lets t l)) H
structure SetC (P : Program) (w : World) (K : PySem.W.Frag) (mg : Str → Option Value) (base : Heap) (C f1 f2 : Addr) (d1 d2 : FuncData) (At : Hp → Addr → Th.Sg → Prop) : Prop where
  cl : Cls K C
  mt : Meth K C "thresholds" f1
  ml : Meth K C "lets_switch" f2
  gt : FnOk P w K mg base CX0 2 f1 d1 ["self", "tick"] (spThr At)
  gl : FnOk P w K mg base CX0 2 f2 d2 ["self", "tick", "last"] (spLet At)
  bt : Binds K d1 ["self", "tick"] []
  bl : Binds K d2 ["self", "tick", "last"] []
  ins : ∀ H z S, At H z S → ∃ dx fs, H z = some (.ins C dx fs) ∧ fs.lookup ("thresholds" : Str) = none ∧ fs.lookup ("lets_switch" : Str) = none
  same : ∀ H H' z S, At H z S → Same H H' → At H' z S
def Rws (S : Th.Sg) (ch : List Int) (g st : Int) (H : Hp) (ys : List V) : Prop := ∀ (i : Nat) (v : V), ys[i]? = some v → ∃ p, v = .ref p ∧ H p = some (.tup [.int (S.wd ch g st i), .bl (S.wo ch g st i)])
theorem Rws.same {S : Th.Sg} {ch : List Int} {g st : Int} {H H' : Hp} {ys : List V} (h : Rws S ch g st H ys) (s : Same H H') : Rws S ch g st H' ys := fun i v e => let ⟨p, a, b⟩ := h i v e; ⟨p, a, s _ _ b⟩
theorem Rws.snoc {S : Th.Sg} {ch : List Int} {g st : Int} {H : Hp} {ys : List V} {p : Addr} (h : Rws S ch g st H ys) (e : H p = some (.tup [.int (S.wd ch g st ys.length), .bl (S.wo ch g st ys.length)])) : Rws S ch g st H (ys ++ [.ref p]) := fun i v q => by
  rcases Nat.lt_or_ge i ys.length with l | g
  · rw [List.getElem?_append_left l] at q; exact h i v q
  · have ei : i = ys.length := by
      have := (List.getElem?_eq_some_iff.mp q).1
      rw [List.length_append, List.length_singleton] at this
      omega
    subst ei
    rw [List.getElem?_append_right (Nat.le_refl _), Nat.sub_self] at q
    cases q
    exact ⟨p, rfl, e⟩
def spWatch (a : Ad) (At : Hp → Addr → Th.Sg → Prop) : SpY := fun vs H Yd Qd _ => ∃ (ww z : Addr) (ch : List Int) (g st : Int) (n : Nat) (S : Th.Sg), vs = [.ref ww, .int g, .ref z, .int st, .int n] ∧ WAt a H ww ch ∧ CH ch ∧ 1 ≤ g ∧ g ≤ 200 ∧ -1000000000000 ≤ st ∧ st ≤ 1000000000000 ∧ n ≤ 10000 ∧ At H z S ∧
  (∀ ys H', ys.length ≤ n → Rws S ch g st H' ys → Same H H' → Yd ys H') ∧ ∀ ys H', ys.length = n → Rws S ch g st H' ys → Same H H' → Qd ys H'
def lstV : Option Int → V
  | none => .non
  | some m => .int m
def spTotals (a : Ad) (At : Hp → Addr → Th.Sg → Prop) : Sp := fun vs H Q _ => ∃ (ww z : Addr) (ch : List Int) (g st : Int) (n : Nat) (S : Th.Sg), vs = [.ref ww, .int g, .ref z, .int st, .int n] ∧ WAt a H ww ch ∧ CH ch ∧ 1 ≤ g ∧ g ≤ 200 ∧ -1000000000000 ≤ st ∧ st ≤ 1000000000000 ∧ n ≤ 10000 ∧ At H z S ∧
  ∀ p H', Same H H' → H' p = some (.tup [.int (S.hc ch g st n), .int (S.sc ch g st n), lstV (S.least ch g st n)]) → Q (.ref p) H'
section
variable {P : Program} {w : World} {K : PySem.W.Frag} {mg : Str → Option Value} {base : Heap} {a : Ad} {C f1 f2 : Addr} {d1 d2 : FuncData} {At : Hp → Addr → Th.Sg → Prop}
theorem ok_watch (T : Txt K mg a) (SW : StC P K mg a) (SC : SetC P w K mg base C f1 f2 d1 d2 At) : GFnY P w K mg base 4 a.f_watch a.d_watch ["weather", "gain", "setting", "start", "count"] (spWatch a At) := by
  have G_check_number : FnOk P w K mg base CX0 1 a.f_check_number a.d_check_number ["number", "least", "greatest"] spNum := ok_check_number T
  have G_heater_state : FnOk P w K mg base CX0 1 a.f_heater_state a.d_heater_state ["degrees", "low", "high", "before"] spHst := ok_heater_state T
  have G_Weather_getitem : FnOk P w K mg base CX0 2 a.f_Weather_getitem a.d_Weather_getitem ["self", "at"] (spWgt a) := ok_Weather_getitem T
  refine gokY T.F_watch sc_watch (fun vs H Yd Qd E h => ?_) (fun cdv A outer s H vs Yd Qd E pn hr h => ?_)
  · obtain ⟨ww, z, ch, g, st, n, S, rfl, _⟩ := h
    rfl
  · obtain ⟨ww, z, ch, g, st, n, S, rfl, hw, cch, g1, g2, s1, s2, n1, hz, ky, kq⟩ := h
    refine ⟨_, (gys_cons (gy_ps (fun _ => (ps_expr (pe_call G_check_number (hr.mono (by decide)) (by rfl) T.mg_check_number T.F_check_number.kp (b_check_number T) .nil pass0 (pa_cons (pv 1) (pa_cons pe_int (pa_cons (pe_glob (v := .int 200) rfl T.mg_MOST_GAIN.choose_spec ⟨_, rfl⟩) pa_nil)))))))
      (gys_cons (gy_ps (fun _ => (ps_expr (pe_call G_check_number (hr.mono (by decide)) (by rfl) T.mg_check_number T.F_check_number.kp (b_check_number T) .nil pass0 (pa_cons (pv 3) (pa_cons (pe_un un_neg (pe_glob (v := .int 1000000000000) rfl T.mg_MOST_DEGREES.choose_spec ⟨_, rfl⟩)) (pa_cons (pe_glob (v := .int 1000000000000) rfl T.mg_MOST_DEGREES.choose_spec ⟨_, rfl⟩) pa_nil)))))))
      (gys_cons (gy_ps (fun _ => (ps_expr (pe_call G_check_number (hr.mono (by decide)) (by rfl) T.mg_check_number T.F_check_number.kp (b_check_number T) .nil pass0 (pa_cons (pv 4) (pa_cons pe_int (pa_cons (pe_glob (v := .int 10000) rfl T.mg_MOST_WATCHED.choose_spec ⟨_, rfl⟩) pa_nil)))))))
      (gys_cons (gy_ps (fun _ => (ps_par3 (i := 5) (j := 6) (l := 7) (by rfl) sc_watch.nd rfl rfl rfl (by decide) (by decide) (by decide) rfl rfl rfl (pa_cons (pv 3) (pa_cons pe_bl (pa_cons pe_non pa_nil))) (by rfl))))
      (gys_cons (gy_for (fun _ => owns_fam) rfl (fun _ => (pi_range1 (by rfl) T.z_range (pa_cons (pv 4) pa_nil))) (fun _ => (pg_name (i := 8) sc_watch.nd rfl (Or.inl rfl)))
        (gys_cons (gy_ps (fun _ => (ps_asg (pe_meth (pv 2) SC.cl SC.mt SC.gt (hr.mono (by decide)) SC.bt .nil pass0 (pa_cons (pv 8) pa_nil)) (show PG _ _ (gTup K 2 (gCons (gName 9) (gCons (gName 10) gNil))) from pg_tup rfl (pgs_cons (pg_name (i := 9) sc_watch.nd rfl (Or.inl rfl) (Or.inr rfl)) (pgs_cons (pg_name (i := 10) sc_watch.nd rfl (Or.inl rfl) (Or.inr rfl)) pgs_nil))))))
      (gys_cons (gy_ps (fun _ => (ps_set (i := 11) sc_watch.nd rfl (Or.inl rfl) (pe_call G_heater_state (hr.mono (by decide)) (by rfl) T.mg_heater_state T.F_heater_state.kp (b_heater_state T) .nil pass0 (pa_cons (pv 5) (pa_cons (pv 9) (pa_cons (pv 10) (pa_cons (pv 6) pa_nil))))))))
      (gys_cons (gy_ps (fun _ => (ps_if (PW.pt (pw_and (pt_cmpR op_ne (pv 11) (pv 6) (nomark _)) (pw_and1 (pt_val (pe_meth (pv 2) SC.cl SC.ml SC.gl (hr.mono (by decide)) SC.bl .nil pass0 (pa_cons (pv 8) (pa_cons (pv 7) pa_nil))))))) (pss_one (ps_par (i := 6) (j := 7) (by rfl) sc_watch.nd rfl rfl (by decide) rfl rfl (pa_cons (pv 11) (pa_cons (pv 8) pa_nil)) (by rfl))) pss_nil)))
      (gys_cons (gy_yield (fun _ => (pe_tup (pa_cons (pv 5) (pa_cons (pv 6) pa_nil)))))
      (gys_cons (gy_ps (fun _ => (ps_set (i := 5) sc_watch.nd rfl (Or.inl rfl) (pe_op op_add (pe_op op_add (pv 5) (pe_ixOwn T.me_Weather_getitem SW.fg G_Weather_getitem (b_Weather_getitem T) (hr.mono (by decide)) pass0 (pv 0) (pv 8))) (pe_ifExp (pt_val (pv 6)) (pv 1) pe_int)))))
      gys_nil))))))
      gys_nil))))), ?_⟩
    refine ⟨_, rfl, _, _, _, rfl, g1, g2, ?_⟩
    refine ⟨_, rfl, _, rfl, _, _, _, rfl, s1, s2, ?_⟩
    refine ⟨_, rfl, _, _, _, rfl, by omega, by omega, ?_⟩
    refine ⟨_, rfl, _, _, _, rfl, ?_⟩
    refine ⟨_, rfl, _, rfl, by omega, by omega, gyfor_range (lo := 0) (n := ((n : Nat) : Int).toNat) (fun i ys σ H' => (∃ u8 u9 u10 u11 : Option V, σ = [some (.ref ww), some (.int g), some (.ref z), some (.int st), some (.int n), some (.int (S.st ch g st i).d), some (.bl (S.st ch g st i).on), some (optV (S.st ch g st i).last), u8, u9, u10, u11]) ∧ ys.length = i ∧ Rws S ch g st H' ys ∧ Same H H') ⟨⟨_, _, _, _, rfl⟩, rfl, fun i v q => by simp at q, Same.refl _⟩ ?_ ?_⟩
    · rintro i ys σ H1 hi ⟨⟨u8, u9, u10, u11, rfl⟩, rfl, rw1, sm⟩
      have hi : ys.length < n := by omega
      have ei : (0 : Int) + (ys.length : Int) = ((ys.length : Nat) : Int) := Int.zero_add _
      have at1 := SC.same _ _ _ _ hz sm
      obtain ⟨dz, fs, hzi, lk1, lk2⟩ := SC.ins _ _ _ at1
      show tYThen _ _ _ _ _ _
      refine y_asg2 (C := fun x y H2 => x = .int (S.thr ys.length).1 ∧ y = .int (S.thr ys.length).2 ∧ Same H1 H2) (fun Q7 hQ => ?_) ?_
      · exact ⟨_, rfl, z, dz, fs, rfl, hzi, lk1, _, rfl, z, ys.length, S, congrArg (fun u => [V.ref z, V.int u]) ei, at1, fun p H2 s2 e2 => hQ p _ _ H2 ⟨rfl, rfl, s2⟩ (SqT.of e2)⟩
      rintro x y H2 ⟨rfl, rfl, s12⟩
      have s2 := sm.trans s12
      try dsimp only [List.set_cons_succ, List.set_cons_zero]
      refine y_asgN ?_
      refine ⟨_, rfl, _, rfl, _, rfl, _, rfl, _, _, _, _, rfl, ?_⟩
      try dsimp only [List.set_cons_succ, List.set_cons_zero]
      have at2 := SC.same _ _ _ _ hz s2
      obtain ⟨dz, fs, hzi, lk1, lk2⟩ := SC.ins _ _ _ at2
      refine y_if (C := fun σ' H' => (∃ u9 u10 u11 : Option V, σ' = [some (.ref ww), some (.int g), some (.ref z), some (.int st), some (.int n), some (.int (S.st ch g st ys.length).d), some (.bl (S.st ch g st (ys.length + 1)).on), some (optV (S.st ch g st (ys.length + 1)).last), some (.int (0 + (ys.length : Int))), u9, u10, u11]) ∧ H' = H2) (fun D' hD' => ?_) ?_
      · have sws : (S.st ch g st (ys.length + 1)).on = (S.sw ys.length (S.st ch g st ys.length)).1 ∧ (S.st ch g st (ys.length + 1)).last = (S.sw ys.length (S.st ch g st ys.length)).2 := ⟨rfl, rfl⟩
        have swd : S.sw ys.length (S.st ch g st ys.length) = if (S.want ys.length (S.st ch g st ys.length) != (S.st ch g st ys.length).on) = true ∧ S.lets ys.length (S.st ch g st ys.length).last = true then (S.want ys.length (S.st ch g st ys.length), some ys.length) else ((S.st ch g st ys.length).on, (S.st ch g st ys.length).last) := rfl
        have ew : Th.hst (S.st ch g st ys.length).d (S.thr ys.length).1 (S.thr ys.length).2 (S.st ch g st ys.length).on = S.want ys.length (S.st ch g st ys.length) := rfl
        rw [ew]
        generalize S.want ys.length (S.st ch g st ys.length) = wv at swd
        rw [sws.1, sws.2] at hD'
        generalize S.sw ys.length (S.st ch g st ys.length) = sw at swd hD'
        refine tif_one (and_stp ?_)
        refine ⟨_, rfl, _, rfl, rfl, _, rfl, ?_⟩
        by_cases c : wv = (S.st ch g st ys.length).on
        · refine ifF (ndF (congrArg V.bl c)) (ifF rfl (tnext (hD' _ _ ?_)))
          rw [if_neg (fun z => by rw [c, Th.bne_self] at z; cases z.1)] at swd
          rw [swd]
          exact ⟨⟨_, _, _, rfl⟩, rfl⟩
        · have cb : (wv != (S.st ch g st ys.length).on) = true := by revert c; cases wv <;> cases (S.st ch g st ys.length).on <;> simp
          refine ifT (by rw [dF (fun z => c (by injection z))]; rfl) ?_
          refine ⟨_, rfl, z, dz, fs, rfl, hzi, lk2, _, rfl, _, rfl, z, ys.length, (S.st ch g st ys.length).last, S, by rw [ei]; rfl, at2, _, rfl, ?_⟩
          by_cases c2 : S.lets ys.length (S.st ch g st ys.length).last = true
          · refine ifT c2 ⟨_, rfl, _, rfl, _, _, rfl, hD' _ _ ?_⟩
            rw [if_pos ⟨cb, c2⟩] at swd
            rw [swd]
            exact ⟨⟨_, _, _, by rw [ei]; rfl⟩, rfl⟩
          · refine ifF (by simpa using c2) (tnext (hD' _ _ ?_))
            rw [if_neg (fun z => c2 z.2)] at swd
            rw [swd]
            exact ⟨⟨_, _, _, rfl⟩, rfl⟩
      · rintro σ' H3 ⟨⟨u9, u10, u11, rfl⟩, rfl⟩
        refine ⟨small10k (by omega), _, rfl, _, rfl, by show 2 ≤ sizeLine; decide, fun p np => ?_⟩
        have s3 := s2.trans (same_upd (o := .tup [.int (S.st ch g st ys.length).d, .bl (S.st ch g st (ys.length + 1)).on]) np)
        have rw3 : Rws S ch g st (upd H3 p (.tup [.int (S.st ch g st ys.length).d, .bl (S.st ch g st (ys.length + 1)).on])) (ys ++ [.ref p]) := (rw1.same (s12.trans (same_upd np))).snoc upd_same
        refine ⟨ky _ _ (by rw [List.length_append, List.length_singleton]; omega) rw3 s3, ?_⟩
        dsimp only
        refine y_asgN ?_
        have hw3 := hw
        obtain ⟨dw, tw, hww, htw⟩ := id hw
        refine ⟨_, rfl, _, rfl, _, rfl, ww, dw, _, rfl, s3 _ _ hww, ww, ch, ys.length, congrArg (fun u => [V.ref ww, V.int u]) ei, hw.same s3, cch, by omega, _, _, rfl, rfl, ?_⟩
        refine ⟨_, rfl, _, rfl, ?_⟩
        have ed : (S.st ch g st (ys.length + 1)).d = (S.st ch g st ys.length).d + Th.chAt ch ys.length + Th.gon g (S.st ch g st (ys.length + 1)).on := rfl
        have fin : ∀ q : Int, q = Th.gon g (S.st ch g st (ys.length + 1)).on → some (V.int ((S.st ch g st ys.length).d + Th.chAt ch ys.length + q)) = some (V.int (S.st ch g st (ys.length + 1)).d) := fun q e => by rw [ed, e]
        by_cases c : (S.st ch g st (ys.length + 1)).on = true
        · refine ifT c ?_
          refine ⟨_, rfl, _, _, rfl, rfl, ⟨some (.int (0 + (ys.length : Int))), u9, u10, u11, ?_⟩, by rw [List.length_append]; rfl, rw3, s3⟩
          rw [← fin g (by unfold Th.gon; rw [if_pos c])]
          rfl
        · refine ifF (by simpa using c) ?_
          refine ⟨_, _, rfl, rfl, ⟨some (.int (0 + (ys.length : Int))), u9, u10, u11, ?_⟩, by rw [List.length_append]; rfl, rw3, s3⟩
          rw [← fin 0 (by unfold Th.gon; rw [if_neg c])]
          rfl
    · rintro ys σ H1 ⟨⟨u8, u9, u10, u11, rfl⟩, rfl, rw1, sm⟩
      exact kq ys H1 (by omega) rw1 sm
theorem ok_totals (T : Txt K mg a) (SW : StC P K mg a) (SC : SetC P w K mg base C f1 f2 d1 d2 At) : FnOk P w K mg base CX0 8 a.f_totals a.d_totals ["weather", "gain", "setting", "start", "count"] (spTotals a At) := by
  have G_watch := ok_watch (base := base) T SW SC
  refine T.F_totals.ok sc_totals (fun vs H Q E h => ?_) (fun cdv A outer s H vs Q E hr h => ?_)
  · obtain ⟨ww, z, ch, g, st, n, S, rfl, _⟩ := h
    rfl
  · obtain ⟨ww, z, ch, g, st, n, S, rfl, hw, cch, g1, g2, s1, s2, n1, hz, k⟩ := h
    refine ⟨_, (pss_cons (ps_asg (pe_tup (pa_cons pe_int (pa_cons pe_int (pa_cons pe_non (pa_cons pe_bl pa_nil))))) (pg_tup rfl (pgs_cons (pg_name (i := 5) sc_totals.nd rfl (Or.inl rfl)) (pgs_cons (pg_name (i := 6) sc_totals.nd rfl (Or.inl rfl)) (pgs_cons (pg_name (i := 7) sc_totals.nd rfl (Or.inl rfl)) (pgs_cons (pg_name (i := 8) sc_totals.nd rfl (Or.inl rfl)) pgs_nil))))))
      (pss_cons (ps_forY PassesOwn.never (hr.mono (by decide)) (pgen_callY G_watch (hr.mono (by decide)) (by rfl) T.mg_watch T.F_watch.kp (b_watch T) .nil (pa_cons (pv 0) (pa_cons (pv 1) (pa_cons (pv 2) (pa_cons (pv 3) (pa_cons (pv 4) pa_nil)))))) (qg_two (i := 9) (j := 10) rfl sc_totals.nd rfl rfl rfl rfl) (qss_cons (qs_if (qt_val (qe_var (i := 10) rfl (.inl rfl))) (qss_one (qs_set (i := 5) sc_totals.nd rfl rfl (qe_add (qe_var (i := 5) rfl (.inl rfl)) qe_int))) qss_nil) (qss_cons (qs_if (qt_neB (qe_var (i := 10) rfl (.inl rfl)) (qe_var (i := 8) rfl (.inl rfl))) (qss_one (qs_set (i := 6) sc_totals.nd rfl rfl (qe_add (qe_var (i := 6) rfl (.inl rfl)) qe_int))) qss_nil) (qss_cons (qs_set (i := 8) sc_totals.nd rfl rfl (qe_var (i := 10) rfl (.inl rfl))) (qss_one (qs_if (qt_or2 (qt_isN (qe_var (i := 7) rfl (.inl rfl))) (qt_lt (qe_var (i := 9) rfl (.inl rfl)) (qe_var (i := 7) rfl (.inl rfl)))) (qss_one (qs_set (i := 7) sc_totals.nd rfl rfl (qe_var (i := 9) rfl (.inl rfl)))) qss_nil))))) rfl rfl (fun _ => rfl))
      (pss_one (ps_ret (pe_tup (pa_cons (pv 5) (pa_cons (pv 6) (pa_cons (pv 7) pa_nil)))))))), ?_⟩
    refine ⟨by show 4 ≤ sizeLine; decide, fun p0 np0 => ⟨p0, _, rfl, SqT.of upd_same, rfl, _, _, rfl, _, _, rfl, _, _, rfl, _, _, rfl, rfl, ?_⟩⟩
    have s0 := same_upd (o := .tup [.int 0, .int 0, .non, .bl false]) np0
    refine ⟨_, rfl, _, rfl, _, rfl, _, rfl, _, rfl, (fun ys H' => ys.length ≤ n ∧ Rws S ch g st H' ys ∧ Same H H'), (fun ys H' => ys.length = n ∧ Rws S ch g st H' ys ∧ Same H H'), ⟨ww, z, ch, g, st, n, S, rfl, hw.same s0, cch, g1, g2, s1, s2, n1, SC.same _ _ _ _ hz s0, fun ys H' l r s => ⟨l, r, s0.trans s⟩, fun ys H' l r s => ⟨l, r, s0.trans s⟩⟩,
      (fun i σ => ∃ u9 u10 : Option V, σ = [some (.ref ww), some (.int g), some (.ref z), some (.int st), some (.int n), some (.int (S.hc ch g st i)), some (.int (S.sc ch g st i)), some (lstV (S.least ch g st i)), some (.bl (S.st ch g st i).on), u9, u10]), ⟨_, _, rfl⟩, ?_, ?_⟩
    · rintro ys x σ' H' ⟨u9, u10, rfl⟩ ⟨ly, rws, sm⟩
      obtain ⟨p, rfl, hp⟩ := rws ys.length x (by rw [List.getElem?_append_right (Nat.le_refl _), Nat.sub_self]; rfl)
      refine ⟨p, _, _, rfl, SqT.of hp, ?_⟩
      try dsimp only [List.set_cons_succ, List.set_cons_zero]
      have e1 : S.hc ch g st (ys.length + 1) = S.hc ch g st ys.length + (if S.wo ch g st ys.length = true then 1 else 0) := rfl
      have e2 : S.sc ch g st (ys.length + 1) = S.sc ch g st ys.length + (if (S.wo ch g st ys.length != (S.st ch g st ys.length).on) = true then 1 else 0) := rfl
      have e3 : S.least ch g st (ys.length + 1) = (match S.least ch g st ys.length with | none => some (S.wd ch g st ys.length) | some m => some (if S.wd ch g st ys.length < m then S.wd ch g st ys.length else m)) := rfl
      have e4 : (S.st ch g st (ys.length + 1)).on = S.wo ch g st ys.length := rfl
      rw [e1, e2, e3, e4]
      generalize S.hc ch g st ys.length = a1
      generalize S.sc ch g st ys.length = a2
      generalize S.least ch g st ys.length = a3
      generalize (S.st ch g st ys.length).on = a4
      generalize S.wd ch g st ys.length = a5
      generalize S.wo ch g st ys.length = a6
      clear e1 e2 e3 e4 hp
      refine seq_if (C := fun σ'' H'' => σ'' = [some (.ref ww), some (.int g), some (.ref z), some (.int st), some (.int n), some (.int (a1 + if a6 = true then 1 else 0)), some (.int a2), some (lstV a3), some (.bl a4), some (.int a5), some (.bl a6)] ∧ H'' = H') (fun D' hD' => ?_) ?_
      · refine ⟨_, rfl, a6, rfl, ?_⟩
        cases a6 with
        | true => exact ⟨_, rfl, _, _, rfl, rfl, hD' _ _ ⟨rfl, rfl⟩⟩
        | false => exact ifF rfl (tnext (hD' _ _ ⟨by simp, rfl⟩))
      rintro σ3 H3 ⟨rfl, rfl⟩
      refine seq_if (C := fun σ'' H'' => σ'' = [some (.ref ww), some (.int g), some (.ref z), some (.int st), some (.int n), some (.int (a1 + if a6 = true then 1 else 0)), some (.int (a2 + if (a6 != a4) = true then 1 else 0)), some (lstV a3), some (.bl a4), some (.int a5), some (.bl a6)] ∧ H'' = H3) (fun D' hD' => ?_) ?_
      · refine ⟨_, rfl, _, rfl, a6, a4, rfl, rfl, _, rfl, ?_⟩
        cases q : (a6 != a4) with
        | true => exact ⟨_, rfl, _, _, rfl, rfl, hD' _ _ ⟨by rw [q]; rfl, rfl⟩⟩
        | false => exact ifF rfl (tnext (hD' _ _ ⟨by rw [q]; simp, rfl⟩))
      rintro σ4 H4 ⟨rfl, rfl⟩
      refine ⟨_, rfl, ?_⟩
      try dsimp only [List.set_cons_succ, List.set_cons_zero]
      cases a3 with
      | none => exact ⟨_, rfl, _, rfl, ifT rfl (ifT rfl ⟨_, rfl, rfl, _, _, rfl⟩)⟩
      | some m =>
        refine ⟨_, rfl, _, rfl, ifF rfl ⟨_, rfl, _, rfl, _, _, rfl, rfl, _, rfl, ?_⟩⟩
        by_cases c : a5 < m
        · refine ifT (dT c) ⟨_, rfl, rfl, some (.int a5), some (.bl a6), ?_⟩
          show _ = [_, _, _, _, _, _, _, some (V.int (if a5 < m then a5 else m)), _, _, _]
          rw [if_pos c]; rfl
        · refine ifF (dF c) ⟨rfl, some (.int a5), some (.bl a6), ?_⟩
          show _ = [_, _, _, _, _, _, _, some (V.int (if a5 < m then a5 else m)), _, _, _]
          rw [if_neg c]; rfl
    · rintro ys σ' H' ⟨u9, u10, rfl⟩ ⟨rfl, rws, sm⟩
      exact ⟨_, rfl, _, rfl, _, rfl, by show 3 ≤ sizeLine; decide, fun p np => k p _ (sm.trans (same_upd np)) upd_same⟩
end
end W6

namespace W6
open PySem PySem.Spec PyProof.Rows L2 Ru StX LamX
theorem up1 {P : Program} {w : World} {K : PySem.W.Frag} {mg : Str → Option Value} {base : Heap} {k k' : Nat} {f : Addr} {fd : FuncData} {ps : List Str} {sp : Sp} (F : FnOk P w K mg base CX0 k f fd ps sp) (h : k ≤ k') : FnOk P w K mg base CX0 k' f fd ps sp :=
  ⟨F.len, fun A outer s H args us vs Q E hr => F.run A outer s H args us vs Q E (hr.mono h)⟩
def AtP (a : Ad) (H : Hp) (z : Addr) (S : Th.Sg) : Prop := ∃ lo hi, SetAt a H z lo hi ∧ S = Th.plainS lo hi
def AtH (a : Ad) (H : Hp) (z : Addr) (S : Th.Sg) : Prop := ∃ L ps, HourAt a H z L ps ∧ ps.length ≤ 1000 ∧ S = Th.hourS L ps
def AtR (a : Ad) (H : Hp) (z : Addr) (S : Th.Sg) : Prop := ∃ lo hi r, RestAt a H z lo hi r ∧ S = Th.restS lo hi r
theorem HourAt.same {a : Ad} {H H' : Hp} {z : Addr} {L : Nat} {ps : List (Int × Int × Int)} (h : HourAt a H z L ps) (s : Same H H') : HourAt a H' z L ps := by
  obtain ⟨l, f, dx, t, qs, h1, h2, h3⟩ := h
  exact ⟨l, f, dx, t, qs, s _ _ h1, s _ _ h2, h3.same s⟩
section
variable {P : Program} {w : World} {K : PySem.W.Frag} {mg : Str → Option Value} {base : Heap} {a : Ad}
theorem setc_plain (T : Txt K mg a) : SetC P w K mg base a.c_Setting a.f_Setting_thresholds a.f_Setting_lets_switch a.d_Setting_thresholds a.d_Setting_lets_switch (AtP a) where
  cl := T.cl_Setting
  mt := T.me_Setting_thresholds
  ml := T.me_Setting_lets_switch
  gt := (up1 (ok_Setting_thresholds T) (by decide)).imp fun vs H Q E h => by
    obtain ⟨z, t, S, rfl, ⟨lo, hi, ⟨dx, hz⟩, rfl⟩, k⟩ := h
    exact ⟨z, _, dx, _, _, lo, hi, rfl, hz, T.cl_Setting, T.na_Setting__low, T.na_Setting__high, rfl, rfl, fun p H' s _ e => k p H' s e⟩
  gl := (up1 (ok_Setting_lets_switch T) (by decide)).imp fun vs H Q E h => by
    obtain ⟨z, t, l, S, rfl, ⟨lo, hi, ⟨dx, hz⟩, rfl⟩, k⟩ := h
    exact ⟨_, _, _, rfl, k⟩
  bt := b_Setting_thresholds T
  bl := b_Setting_lets_switch T
  ins := fun H z S ⟨lo, hi, ⟨dx, hz⟩, _⟩ => ⟨dx, _, hz, rfl, rfl⟩
  same := fun H H' z S ⟨lo, hi, ⟨dx, hz⟩, e⟩ s => ⟨lo, hi, ⟨dx, s _ _ hz⟩, e⟩
theorem setc_hours (T : Txt K mg a) (SW : StC P K mg a) : SetC P w K mg base a.c_HourSetting a.f_HourSetting_thresholds a.f_Setting_lets_switch a.d_HourSetting_thresholds a.d_Setting_lets_switch (AtH a) where
  cl := T.cl_HourSetting
  mt := T.me_HourSetting_thresholds
  ml := SW.hl
  gt := (up1 (ok_HourSetting_thresholds T) (by decide)).imp fun vs H Q E h => by
    obtain ⟨z, t, S, rfl, ⟨L, ps, hz, pl, rfl⟩, k⟩ := h
    exact ⟨z, t, L, ps, rfl, hz, pl, k⟩
  gl := (up1 (ok_Setting_lets_switch T) (by decide)).imp fun vs H Q E h => by
    obtain ⟨z, t, l, S, rfl, ⟨L, ps, hz, pl, rfl⟩, k⟩ := h
    exact ⟨_, _, _, rfl, k⟩
  bt := b_HourSetting_thresholds T
  bl := b_Setting_lets_switch T
  ins := fun H z S ⟨L, ps, ⟨_, _, dx, t, qs, hz, _⟩, _, _⟩ => ⟨dx, _, hz, rfl, rfl⟩
  same := fun H H' z S ⟨L, ps, hz, pl, e⟩ s => ⟨L, ps, hz.same s, pl, e⟩
theorem rst_b (SW : StC P K mg a) : Binds K a.d_RestSetting_thresholds ["self", "tick"] [] := by
  obtain ⟨oc, od, osl, doc, pm, an, cda, cc, ct, e, lk, hcd, _⟩ := SW.thr
  rw [e]
  exact fun s us X hl => match us, hl with | [_, _], _ => .of_eq rfl
theorem setc_rest (T : Txt K mg a) (SW : StC P K mg a) : SetC P w K mg base a.c_RestSetting a.f_RestSetting_thresholds a.f_RestSetting_lets_switch a.d_RestSetting_thresholds a.d_RestSetting_lets_switch (AtR a) where
  cl := T.cl_RestSetting
  mt := T.me_RestSetting_thresholds
  ml := T.me_RestSetting_lets_switch
  gt := (up1 (ok_RestSetting_thresholds T SW) (by decide)).imp fun vs H Q E h => by
    obtain ⟨z, t, S, rfl, ⟨lo, hi, r, hz, rfl⟩, k⟩ := h
    exact ⟨z, _, lo, hi, r, rfl, hz, k⟩
  gl := (up1 (ok_RestSetting_lets_switch T) (by decide)).imp fun vs H Q E h => by
    obtain ⟨z, t, l, S, rfl, ⟨lo, hi, r, hz, rfl⟩, k⟩ := h
    exact ⟨z, t, l, lo, hi, r, rfl, hz, k⟩
  bt := rst_b SW
  bl := b_RestSetting_lets_switch T
  ins := fun H z S ⟨lo, hi, r, ⟨dx, hz⟩, _⟩ => ⟨dx, _, hz, rfl, rfl⟩
  same := fun H H' z S ⟨lo, hi, r, ⟨dx, hz⟩, e⟩ s => ⟨lo, hi, r, ⟨dx, s _ _ hz⟩, e⟩
end
end W6

/-! RuQ: a try with several clauses, some with a name -/
namespace Ru
open PySem PySem.Spec PyProof.Rows L2
abbrev Ste := Addr → Value → Option Addr → TS
/-- the ends behind a suite whose name (slot i) goes -/
def unE (i : Nat) (D : Ends) : Ends := ⟨fun σ H => D.nx (σ.set i none) H, D.rt, fun σ H => D.bk (σ.set i none) H, fun σ H => D.ct (σ.set i none) H⟩
def suiteOf (o : Option Nat) (ts : Ste) (D : Ends) (a : Addr) (cls : Value) (d : Option Addr) (σ : L2.St) (H : Hp) : Prop :=
  match o with
  | none => ts a cls d D σ H
  | some i => ts a cls d (unE i D) (σ.set i (some (.ref a))) H
/-- what the clauses wish of an error, one after the other -/
def wMix (K : PySem.W.Frag) (Wo : WX) (D : Ends) : List (Value × Option Nat × Ste) → WX
  | [] => Wo
  | (c, o, ts) :: r => fun cls d σ H => ∃ b, PySem.W.exmOne K cls c = some b ∧ (b = true → ∀ a, H a = none → suiteOf o ts D a cls d σ H) ∧ (b = false → wMix K Wo D r cls d σ H)
inductive Hds (X : Cx) : List ExceptHandler → List (Value × Option Nat × Ste) → Prop
  | nil : Hds X [] []
  | plain {x : Str} {c : Value} {ts : Ste} {st : Stmt} {sts : List Stmt} {p1 p2 : Pos} {hs : List ExceptHandler} {l : List (Value × Option Nat × Ste)} (nm : Names X x c)
      (su : ∀ (a : Addr) (oe : Obj) (cls : Value) (d : Option Addr) (pn : List (Addr × Obj)), Zc cls d oe → (∃ vs, oe.data = .fields vs) → PSs (X.suite a ((a, oe) :: pn)) (st :: sts) (ts a cls d)) (r : Hds X hs l) :
      Hds X (.ExceptHandler (some (.Name x p1)) none (st :: sts) p2 :: hs) ((c, none, ts) :: l)
  | named {x n : Str} {i : Nat} {c : Value} {ts : Ste} {st : Stmt} {sts : List Stmt} {p1 p2 : Pos} {hs : List ExceptHandler} {l : List (Value × Option Nat × Ste)} (nd : X.N.Nodup) (hi : X.N[i]? = some n) (lk : X.env.kindOf n = some .local) (nm : Names X x c)
      (su : ∀ (a : Addr) (oe : Obj) (cls : Value) (d : Option Addr) (pn : List (Addr × Obj)), Zc cls d oe → (∃ vs, oe.data = .fields vs) → PSs (X.suite a ((a, oe) :: pn)) (st :: sts) (ts a cls d)) (r : Hds X hs l) :
      Hds X (.ExceptHandler (some (.Name x p1)) (some n) (st :: sts) p2 :: hs) ((c, some i, ts) :: l)
section
variable {X : Cx} {body : List Stmt} {eh : ExceptHandler} {hs : List ExceptHandler} {l : List (Value × Option Nat × Ste)} {pos : Pos} {tb : WX → TS} {Wo : WX}
theorem ps_try_mix (hst : X.stack = X.env :: X.outer) (hfr : X.env.frame = some X.env.locals) (tko : Takes X Wo)
    (hbody : ∀ (W : WX) (pn : List (Addr × Obj)) (xe : Value → Shared → Prop), Takes (X.tr pn xe) W → PassesOwn (model X.prog X.w) X.A X.env xe → PSs (X.tr pn xe) body (tb W))
    (hcl : Hds X (eh :: hs) l) : PS X (.Try body (eh :: hs) [] [] pos) (fun D σ H => tb (wMix X.K Wo D l) D σ H) := by
  refine ⟨fun pq sh σ H D J0 g => ?_⟩
  have okx := J0.ok
  have frA : X.A.frames = some (X.env :: X.outer) := by rw [okx.frames, hst]
  refine wpAny_Try_except ?_
  have bodyRun := (hbody (wMix X.K Wo D l) (X.pn ++ pq)
    (fun e z1 => wpAny (model X.prog X.w) X.A (noteFrame e X.env)
      (fun _ z2 => wpAny (model X.prog X.w) X.A (setFlight e none) (fun _ z3 => wpAny (model X.prog X.w) X.A (handleBy e X.env (eh :: hs)) (SP X pq D) X.xe z3) X.xe z2) X.xe z1)
    (fun u z xx => ?caught) PassesOwn.looking).run [] sh σ H D (J0.toTry _) g
  case caught =>
    obtain ⟨a, B, sI, pq', σ1, H1, cls, d, rfl, Jt, nb, up, sk, na, eos, ag, wish⟩ := xx
    have J1 : Inv X pq σ1 H1 sI := Jt.ofTry okx
    have sk1 : Sky B (X.env :: X.outer) a (Zc cls d) X.env.locals z.heap := by rw [← hst]; exact sk
    show wpAny (model X.prog X.w) X.A (noteFrame (.ref a) X.env) _ _ _
    refine Sky.land Zc.steady frA hfr sk1 fun hp fl upl => ?_
    have up2 := up.trans upl
    have J2 : Inv X pq σ1 H1 { z with heap := hp } := J1.landed nb fl.1 up2 eos ag
    obtain ⟨oe, vs, goe, zoe, doe⟩ := fl.there
    have noFr : a ∉ frs (X.env :: X.outer) := fun mem => by
      obtain ⟨_, o2, eo, nf⟩ := (fl.2.2.1 : hp.FunFrames B (X.env :: X.outer)).mem mem
      rw [goe] at eo
      cases eo
      exact nf _ doe
    have ne1 : a ≠ X.env.locals := fun q => noFr (List.mem_filterMap.mpr ⟨X.env, List.mem_cons_self, by rw [hfr, q]⟩)
    have ne2 : a ∉ X.fs := fun mem => by
      obtain ⟨e, me, q⟩ := List.mem_filterMap.mp mem
      exact noFr (List.mem_filterMap.mpr ⟨e, List.mem_cons_of_mem _ me, q⟩)
    have SU := J2.suite goe doe na ne1 ne2
    have LT : PySem.W.Looks (model X.prog X.w) hp (typeOf (.ref a)) cls := fun A Q E s2 k q => wpAny_typeOf_ref (k _ _ goe) (by rw [zoe.1]; exact q)
    have testN : ∀ {x : Str} {c : Value} {p1 : Pos} {Q E : Value → Shared → Prop}, Names X x c → Q c { z with heap := hp } → wpAny (model X.prog X.w) (X.A.mark (some (.ref a))) (eval (.Name x p1) X.env) Q E { z with heap := hp } := fun {x c p1 Q E} nm q => by
      obtain ⟨gx, dbg, hm | ⟨hm, hv, hnn⟩⟩ := nm
      · exact ld_glob (X := X.suite a ((a, oe) :: (X.pn ++ pq))) SU gx hm q dbg
      · exact ld_blt (X := X.suite a ((a, oe) :: (X.pn ++ pq))) SU gx hm hv q hnn dbg
    have walk : ∀ {hs' : List ExceptHandler} {l' : List (Value × Option Nat × Ste)}, Hds X hs' l' → wMix X.K Wo D l' cls d σ1 H1 → wpAny (model X.prog X.w) X.A (handleBy (.ref a) X.env hs') (SP X pq D) X.xe { z with heap := hp } := by
      intro hs' l' hk
      induction hk with
      | nil =>
        intro wi
        refine wpAny_handleBy_nil ?_
        obtain ⟨b1, b2, b3, oe5, vs5, T5, oT5, ts5, g5, z5, d5, t5, r5⟩ := id fl
        unfold PySem.passOn
        refine wpAny_bind (wpAny_field g5 d5 t5 ?_)
        rw [if_neg (show ¬ ((Value.ref T5 == Value.none) = true) from by simp)]
        have out : wpAny (model X.prog X.w) X.A (setFlight (.ref a) X.env.frame) (fun _ z4 => wpAny (model X.prog X.w) X.A (throw (.ref a) : Sem Flow) (SP X pq D) X.xe z4) X.xe { z with heap := hp } := by
          rw [hfr]
          exact HandSPX.setFlight_upZ fl fun h6 hh6 up6 => wpAny_throw (tko _ _ ⟨a, B, sI, pq, σ1, H1, cls, d, rfl, J1, nb, up2.trans up6, .inr (.inr (by rw [hst]; exact hh6)), na, eos, ag, wi⟩)
        first | exact wpAny_bind (wpAny_pure (wpAny_bind out)) | exact wpAny_bind out
      | plain nm su r ih =>
        intro wi
        obtain ⟨b, eb, yes, no⟩ := wi
        refine wpAny_handleBy_cons (codeAny_handlers_test (testN nm ((PySem.W.exm_one (M := model X.prog X.w) J2.kIn LT eb).here ?_))) (by intro q; cases q)
        cases b with
        | false => exact ih (no rfl)
        | true =>
          refine codeAny_handlers_suite ?_
          refine HandSPX.lands_againZ fl fun h7 fl7 up7 => ?_
          have J7 : Inv X pq σ1 H1 { z with heap := h7 } := J1.landed nb fl7.1 (up2.trans up7) eos ag
          obtain ⟨oe7, vs7, go7, zo7, do7⟩ := fl7.there
          refine wpAny_mono ((su a oe7 cls d (X.pn ++ pq) zo7 ⟨_, do7⟩).run [] _ _ H1 _ (J7.suite go7 do7 na ne1 ne2) (yes rfl a na)) (fun f z8 sp8 => ?_) (fun _ _ q => q.elim)
          cases f with
          | next => obtain ⟨σ8, H8, S8, q8⟩ := sp8; exact ⟨_, _, S8.unsuite okx, q8⟩
          | brk => obtain ⟨σ8, H8, S8, q8⟩ := sp8; exact ⟨_, _, S8.unsuite okx, q8⟩
          | cont => obtain ⟨σ8, H8, S8, q8⟩ := sp8; exact ⟨_, _, S8.unsuite okx, q8⟩
          | ret u => obtain ⟨v8, σ8, H8, S8, r8, q8⟩ := sp8; exact ⟨_, _, _, S8.unsuite okx, r8, q8⟩
      | @named x n i c ts st sts p1 p2 hs3 l3 nd hi lk nm su r ih =>
        intro wi
        obtain ⟨b, eb, yes, no⟩ := wi
        refine wpAny_handleBy_cons (codeAny_handlers_test (testN nm ((PySem.W.exm_one (M := model X.prog X.w) J2.kIn LT eb).here ?_))) (by intro q; cases q)
        cases b with
        | false => exact ih (no rfl)
        | true =>
          refine codeAny_handlers_suite_as ?_
          refine HandSPX.lands_againZ fl fun h7 fl7 up7 => ?_
          have J7 : Inv X pq σ1 H1 { z with heap := h7 } := J1.landed nb fl7.1 (up2.trans up7) eos ag
          obtain ⟨oe7, vs7, go7, zo7, do7⟩ := fl7.there
          refine store_ok (X := X.suite a ((a, oe7) :: (X.pn ++ pq))) (v := .ref a) (J7.suite go7 do7 na ne1 ne2) nd hi (.inl lk) rfl (fun z5 S5 => ?_) (.inr lk)
          refine wpAny_mono ((su a oe7 cls d (X.pn ++ pq) zo7 ⟨_, do7⟩).run [] z5 _ H1 _ S5 (yes rfl a na)) (fun f z8 sp8 => ?_) (fun _ _ q => q.elim)
          have gone : ∀ {σ8 : L2.St} {H8 : Hp} {Q : Shared → Prop}, Inv (X.suite a ((a, oe7) :: (X.pn ++ pq))) [] σ8 H8 z8 → (∀ z9, Inv X pq (σ8.set i none) H8 z9 → Q z9) →
              wpAny (model X.prog X.w) X.A (do bindName X.env n .none; unbindBehindTheSuite X.env n p2) (fun _ z9 => Q z9) X.xe z8 := fun {σ8 H8 Q} S8 hq => gone_ok (S8.unsuite okx) nd hi lk hq
          cases f with
          | next => obtain ⟨σ8, H8, S8, q8⟩ := sp8; exact gone S8 fun z9 J9 => ⟨_, _, J9, q8⟩
          | brk => obtain ⟨σ8, H8, S8, q8⟩ := sp8; exact gone S8 fun z9 J9 => ⟨_, _, J9, q8⟩
          | cont => obtain ⟨σ8, H8, S8, q8⟩ := sp8; exact gone S8 fun z9 J9 => ⟨_, _, J9, q8⟩
          | ret u => obtain ⟨v8, σ8, H8, S8, r8, q8⟩ := sp8; exact gone S8 fun z9 J9 => ⟨_, _, _, J9, r8, q8⟩
    exact walk hcl wish
  refine wpAny_mono bodyRun (fun f z1 sp1 => ?_) (fun e z1 he => he)
  cases f with
  | next => obtain ⟨σ2, H2, J2, q2⟩ := sp1; exact wpAny_execs_nil ⟨σ2, H2, J2.ofTry okx, q2⟩
  | brk => obtain ⟨σ2, H2, J2, q2⟩ := sp1; exact ⟨σ2, H2, J2.ofTry okx, q2⟩
  | cont => obtain ⟨σ2, H2, J2, q2⟩ := sp1; exact ⟨σ2, H2, J2.ofTry okx, q2⟩
  | ret u => obtain ⟨v2, σ2, H2, J2, r2, q2⟩ := sp1; exact ⟨v2, σ2, H2, J2.ofTry okx, r2, q2⟩
end
end Ru

/-! RuR: errors' classes as they stand, by name; what a def that catches tells of them -/
namespace Ru
open PySem PySem.Spec PyProof.Rows L2 LamX
/-- an error without an __init__ of its own -/
structure Ep (K : PySem.W.Frag) (mg : Str → Option Value) (nm : Str) (C : Addr) : Prop where
  g : mg nm = some (.ref C)
  ex : ExcC K C
  xc : PySem.W.excIn K C [.type "ValueError", .type "Exception", .type "BaseException", .type "object"] "ValueError.__new__" = true
  kp : PySem.W.keepIn K (.ref C) = true
  bx : PySem.W.subIn K (.ref C) (.type "BaseException") = some true
  ty : PySem.W.typeIn K (.ref C) = some (.type "type")
/-- an error with an index -/
structure Ei (P : Program) (K : PySem.W.Frag) (mg : Str → Option Value) (nm : Str) (C f : Addr) : Prop where
  ix : PySem.IxX.IxTxt P K mg nm C f
  ex : ExcC K C
/-- an error's name, its class, whether it has an index -/
structure En where
  nm : Str
  c : Addr
  ix : Bool
/-- what an error is told as -/
def EnOf (L : List En) (cls : Value) (d : Option Addr) (H : Hp) (xs : List V) : Prop :=
  ∃ e ∈ L, cls = .ref e.c ∧ ((e.ix = true ∧ ∃ (dd : Addr) (i : Int), d = some dd ∧ H dd = some (.xd [(("index" : Str), .int i)]) ∧ xs = [.str e.nm, .int i]) ∨ (e.ix = false ∧ d = none ∧ xs = [.str e.nm]))
/-- told: the error's tuple, or what the work gave -/
def TTo (L : List En) : (XK → Hp → VK → Prop) → Hp → VK → Prop := fun tl H Q =>
  tl (fun cls d H' => ∃ xs, EnOf L cls d H' xs ∧ ∀ p H'', Same H' H'' → H'' p = some (.tup xs) → Q (.ref p) H'') H Q
/-- a work that ends in an error without an index -/
theorem workP {X : Cx} {k : Nat} {σ : L2.St} {H0 : Hp} {f : Addr} {params : Arguments} {body : Expr} {scope : Scope} {ds : List V} {t : XK → TE} {L : List En} {nm : Str} {C : Addr} (hm : (⟨nm, C, false⟩ : En) ∈ L) (la : LamAt X H0 f params body scope ds) (lb : LamB X k params body scope ds t)
    (go : ∀ (H' : Hp) (E : XK) (Q : VK), Same H0 H' → (∀ H'', Same H' H'' → E (.ref C) none H'') → t E σ H' Q) : Work X k (TTo L) σ H0 f [.str nm] :=
  ⟨params, body, scope, ds, t, la, lb, fun H' Q s h => go H' _ _ s fun H'' s'' => ⟨_, ⟨_, hm, rfl, .inr ⟨rfl, rfl, rfl⟩⟩, fun p H3 s3 hp => h p H3 (s''.trans s3) hp⟩⟩
/-- a work that ends in an error with an index -/
theorem workI {X : Cx} {k : Nat} {σ : L2.St} {H0 : Hp} {f : Addr} {params : Arguments} {body : Expr} {scope : Scope} {ds : List V} {t : XK → TE} {L : List En} {nm : Str} {C : Addr} {i : Int} (hm : (⟨nm, C, true⟩ : En) ∈ L) (la : LamAt X H0 f params body scope ds) (lb : LamB X k params body scope ds t)
    (go : ∀ (H' : Hp) (E : XK) (Q : VK), Same H0 H' → (∀ d H'', Same H' H'' → H'' d = some (.xd [(("index" : Str), .int i)]) → E (.ref C) (some d) H'') → t E σ H' Q) : Work X k (TTo L) σ H0 f [.str nm, .int i] :=
  ⟨params, body, scope, ds, t, la, lb, fun H' Q s h => go H' _ _ s fun d H'' s'' hd => ⟨_, ⟨_, hm, rfl, .inl ⟨rfl, d, i, rfl, hd, rfl⟩⟩, fun p H3 s3 hp => h p H3 (s''.trans s3) hp⟩⟩
end Ru

namespace W6
open PySem PySem.Spec PyProof.Rows L2 Ru StX LamX
/-- where the errors' classes stand -/
structure Er2 where
  n : Addr
  x : Addr
  f : Addr
/-- what the written part says of the errors -/
structure E2T (P : Program) (K : PySem.W.Frag) (mg : Str → Option Value) (er : Er2) : Prop where
  n : Ep K mg "InvalidNumber" er.n
  x : Ei P K mg "InvalidSetting" er.x er.f
  nn : PySem.W.exmOne K (.ref er.n) (.ref er.n) = some true
  xn : PySem.W.exmOne K (.ref er.x) (.ref er.n) = some false
  xx : PySem.W.exmOne K (.ref er.x) (.ref er.x) = some true
def eL (er : Er2) : List En := [⟨"InvalidNumber", er.n, false⟩, ⟨"InvalidSetting", er.x, true⟩]
def spNumX (er : Er2) : Sp := fun vs H Q E => ∃ n l u : Int, vs = [.int n, .int l, .int u] ∧ ((l ≤ n ∧ n ≤ u) → Q .non H) ∧ (¬ (l ≤ n ∧ n ≤ u) → E (.ref er.n) none H)
section
variable {X : Cx} {a : Ad} {er : Er2}
theorem gives_outcome {g : Addr} {cdg : Value} (T : Txt X.K X.mg a) (ER : E2T X.prog X.K X.mg er) : Gives2 X ["_law_work", "_law_e"] "_law_outcome" (defScope s__law_outcome) g cdg (defBody s__law_outcome) "_law_work" (TTo (eL er)) := by
  intro f s H Q tl hr act h
  have byX : ∀ (ea : Addr) (oe : Obj) (cls : Value) (d : Option Addr) (pn : List (Addr × Obj)) (e : Expr) (te : TE) (pos : Pos), Zc cls d oe → (∃ vs, oe.data = .fields vs) →
      PE ((cxOf C8.CX0 X.prog X.w X.K X.mg X.base ["_law_work", "_law_e"] "_law_outcome" (defScope s__law_outcome) g cdg X.A X.stack s H C8.E0).nox.suite ea ((ea, oe) :: pn)) e te →
      attributeBase e "index" (cxOf C8.CX0 X.prog X.w X.K X.mg X.base ["_law_work", "_law_e"] "_law_outcome" (defScope s__law_outcome) g cdg X.A X.stack s H C8.E0).env (eval e (cxOf C8.CX0 X.prog X.w X.K X.mg X.base ["_law_work", "_law_e"] "_law_outcome" (defScope s__law_outcome) g cdg X.A X.stack s H C8.E0).env) = eval e (cxOf C8.CX0 X.prog X.w X.K X.mg X.base ["_law_work", "_law_e"] "_law_outcome" (defScope s__law_outcome) g cdg X.A X.stack s H C8.E0).env →
      PE ((cxOf C8.CX0 X.prog X.w X.K X.mg X.base ["_law_work", "_law_e"] "_law_outcome" (defScope s__law_outcome) g cdg X.A X.stack s H C8.E0).nox.suite ea ((ea, oe) :: pn)) (.Attribute e "index" pos) (tByIx er.x ea cls d te) := fun _ _ _ _ _ _ _ _ hz hf he hb => pe_byIx (X := (cxOf C8.CX0 X.prog X.w X.K X.mg X.base ["_law_work", "_law_e"] "_law_outcome" (defScope s__law_outcome) g cdg X.A X.stack s H C8.E0).nox) ER.x.ix hz hf he hb
  refine ⟨_, PSs.nox ((pss_one (ps_try_mix rfl rfl L2.takes0 (by exact fun W pn xe tk _ =>
      (pss_one (ps_ret (act W pn xe _ _ tk)))) (Hds.plain ⟨rfl, by decide, .inl ER.n.g⟩ (by exact fun ea oe cls d pn hz hf =>
      (pss_one (ps_ret (pe_tup (pa_cons pe_str pa_nil))))) (Hds.named (i := 1) sc__law_outcome.nd rfl rfl ⟨rfl, by decide, .inl ER.x.ix.gC⟩ (by exact fun ea oe cls d pn hz hf =>
      (pss_one (ps_ret (pe_tup (pa_cons pe_str (pa_cons (byX ea oe cls d pn _ _ _ hz hf (pv 1) rfl) pa_nil)))))) Hds.nil))))), ?_⟩
  refine ⟨rfl, Same.refl _, _, ?_, h⟩
  rintro cls d H' ⟨xs, ⟨e, he, rfl, hj⟩, go⟩
  rcases List.mem_cons.mp he with rfl | he
  · refine ⟨true, ER.nn, fun _ ea hea => ?_, fun z => nomatch z⟩
    rcases hj with ⟨z, _⟩ | ⟨_, rfl, rfl⟩
    · cases z
    exact ⟨by show 1 ≤ sizeLine; decide, fun p hp => go p _ (same_upd hp) upd_same⟩
  · obtain rfl := List.mem_singleton.mp he
    refine ⟨false, ER.xn, fun z => (nomatch z), fun _ => ⟨true, ER.xx, fun _ ea hea => ?_, fun z => nomatch z⟩⟩
    rcases hj with ⟨_, dd, i, rfl, hx, rfl⟩ | ⟨z, _⟩
    · exact ⟨_, rfl, rfl, rfl, dd, _, rfl, hx, by show 2 ≤ sizeLine; decide, fun p hp => go p _ (same_upd hp) upd_same⟩
    · cases z
theorem give_outcome (T : Txt X.K X.mg a) (ER : E2T X.prog X.K X.mg er) : GiveF X ["_law_work", "_law_e"] "_law_outcome" (defScope s__law_outcome) a.f__law_outcome (defBody s__law_outcome) "_law_work" (TTo (eL er)) := by
  have bb := b__law_outcome T
  obtain ⟨oc, od, kV, doc, pm, an, cdv, ct, osl, e, lk, hcd⟩ := T.F__law_outcome.ex
  rw [e] at lk bb
  exact ⟨T.mg__law_outcome, T.F__law_outcome.kp, ⟨_, _, _, _, _, _, _, _, _, _, _, lk, hcd, bb, gives_outcome T ER⟩, sc__law_outcome, rfl, .inl rfl, by decide, by decide⟩
end
section
variable {P : Program} {w : World} {K : PySem.W.Frag} {mg : Str → Option Value} {base : Heap} {a : Ad} {er : Er2}
/-- a def whose code object stands at c -/
theorem okC {x qual : Str} {st : Stmt} {f c : Addr} {fd : FuncData} {N ps : List Str} {k : Nat} {sp : Sp} (F : Fun K x qual st f fd) (hc : fd.code = .ref c) (S : FnScope N ps (defScope st)) (len : ∀ vs H Q E, sp vs H Q E → vs.length = ps.length)
    (hbody : ∀ (A : Around) (outer : List Env) (s : Shared) (H : Hp) (vs : List V) (Q : VK) (E : XK), Room k (A.deeper (envOfC qual (defScope st) s.heap.objs.size f (.ref c))) → sp vs H Q E →
      ∃ t, PSs (cxOf CX0 P w K mg base N qual (defScope st) f (.ref c) A outer s H E).nox (defBody st) t ∧ t { nx := fun _ H' => Q .non H', rt := Q } (start N vs) H) : FnOk P w K mg base CX0 (k + 1) f fd ps sp := by
  obtain ⟨oc, od, kV, doc, pm, an, cdv, ct, osl, rfl, lk, hcd⟩ := F.ex
  have e : cdv = .ref c := hc
  subst e
  refine fn_of lk hcd S len fun A outer s H vs Q E hr hsp => ?_
  obtain ⟨t, h, q⟩ := hbody A outer s H vs Q E hr hsp
  exact ⟨t, h.nox, q⟩
theorem tabs_kp {Tb : List (Addr × Str)} {H H' : Hp} {x y : Addr} (ls : LS K H x y) (k : Kp x H H') (h : Tabs Tb H) : Tabs Tb H' := by
  have go : ∀ {b : Addr} {o : HO}, H b = some o → (∀ xs, o ≠ .lst xs) → H' b = some o := fun e n => k.get ls e n
  intro p hp
  obtain ⟨ps, a1, a2, a3⟩ := h p hp
  refine ⟨ps, go a1 (fun xs z => nomatch z), a2, fun pos cv hc => ?_⟩
  obtain ⟨c, e1, e2⟩ := a3 pos cv hc
  exact ⟨c, e1, go e2 (fun xs z => nomatch z)⟩
theorem LS.ext {H H' : Hp} {x y : Addr} (h : LS K H x y) (s : ExtN H H') : LS K H' x y := by
  obtain ⟨ns, i, m, c, h1, h2, r⟩ := h
  refine ⟨ns, i, m, c, s _ _ h1 (fun _ z => nomatch z), ?_, r⟩
  rcases h2 with (h | ⟨ob, h⟩) | h
  · exact .inl (.inl (s _ _ h (fun _ z => nomatch z)))
  · exact .inl (.inr ⟨ob, s _ _ h (fun _ z => nomatch z)⟩)
  · exact .inr h
theorem okx_check_number (T : Txt K mg a) (ER : E2T P K mg er) : FnOk P w K mg base (L2.CX P w) 1 a.f_check_number a.d_check_number ["number", "least", "greatest"] (spNumX er) := by
  refine T.F_check_number.okX sc_check_number (fun vs H Q E h => ?_) (fun cdv A outer s H vs Q E hr h => ?_)
  · obtain ⟨n, l, u, rfl, _⟩ := h
    rfl
  · obtain ⟨n, l, u, rfl, k, kx⟩ := h
    refine ⟨_, (pss_one (ps_if (pt_not (pt_chain op_le op_le (pv 1) (pv 0) (pv 2))) (pss_one (ps_raise rfl (takes_of rfl rfl rfl rfl) (pmk_own PySem.F.excBase_ValueError ER.n.xc ER.n.g ER.n.kp (raises_own ER.n.bx ER.n.ty) rfl))) pss_nil)), ?_⟩
    refine ⟨_, rfl, _, rfl, _, _, rfl, rfl, _, rfl, ?_⟩
    by_cases g1 : l ≤ n
    · refine ifT (dT g1) ⟨_, rfl, _, _, rfl, rfl, _, rfl, ?_⟩
      by_cases g2 : n ≤ u
      · refine ifF (nF g2) ?_
        exact k ⟨g1, g2⟩
      · refine ifT (nT g2) ?_
        exact kx fun z => g2 z.2
    · refine ifF (dF g1) ⟨_, rfl, ifT rfl ?_⟩
      exact kx fun z => g1 z.1
end
end W6

set_option maxHeartbeats 1000000
/-! RuAC: a generator that lets an exception out before it hands anything out: list(g), for .. in g -/
namespace Ru
open PySem PySem.Spec PyProof.Rows GenW L2
def NoY (Yd Qd : List V → Hp → Prop) : Prop := (∀ ys H, ¬ Yd ys H) ∧ ∀ ys H, ¬ Qd ys H
def eat1 (sc : Shared) : Eat where
  Gd := fun _ θ pk _ => pk = [] ∧ θ = sc
  Ks := []
  Z := sc.heap.objs.size
  ks := fun _ _ _ _ h => by rw [h.1]; rfl
  sz := fun _ _ _ _ h => by rw [h.2]
theorem GMadeY.toG {P : Program} {w : World} {K : PySem.W.Frag} {mg : Str → Option Value} {base : Heap} {k : Nat} {outer : List Env} {H : Hp} {s s' : Shared} {Yd Qd Q : List V → Hp → Prop} {Q : List V → Hp → Prop} {E : XK} {u : Value} (h : GMadeY P w K mg base k outer H s Yd Qd E u s') (nY : NoY Yd Qd) :
    GMade P w k outer H s [] Q E u s' := by
  obtain ⟨a, g, c, e, h1, h2, h3, h4, h5, h6, h7, h8, wake⟩ := h
  refine ⟨a, g, c, e, h1, h2, h3, h4, h5, h6, h7, h8, fun A S s2 hr hf hS hk hSo hos hba => ?_⟩
  obtain ⟨N, qual, scp, f, cd, go, σ0, hgo, I, hsz, seg⟩ := wake A hr hf
  have I2 : Inv (famG P w K mg base N qual scp f cd A outer s H E [(a, go)] s) [] σ0 H s2 := I.call' (ch := []) (hos.trans h5.symm) (Un.kept hk) (I.hok.kept hk) hba fun b z => by simp at z
  refine seg_imp (fun n s₀ r s1 hR => ?_) (fun n s₀ v s kap kap' hk hY => ?_) sizeLine (seg (eat1 s) s2 s [] ⟨rfl, rfl⟩ I2)
  · rcases hR with ⟨_, ys, ip, σ, H1, θ, pk, _, _, _, q⟩ | ⟨e, he, ⟨θ, pk, ys, ⟨_, rfl⟩, cx⟩, ig⟩
    · exact (nY.2 _ _ q).elim
    · exact .inr ⟨e, he, cx, ig⟩
  · obtain ⟨ys, x, ip, σ, H, θ, pk, _, _, _, _, _, hyd, _⟩ := hY
    exact (nY.1 _ _ hyd).elim
section
variable {X : Cx} {k : Nat}
def tNoG (tgn : TGenY) : TGen := fun σ H _ => tgn σ H fun Yd Qd _ => NoY Yd Qd
theorem pgen_ofY {e : Expr} {tgn : TGenY} {E : XK} (h : PGenY X k e tgn E) : PGen X k e (tNoG tgn) E :=
  ⟨fun pins s σ H cont I q => thn (h.run pins s σ H _ I q) fun u s' ⟨H1, sc, Yd, Qd, I1, G, n⟩ => ⟨H1, sc, [], I1, .nil, G.toG (Q := cont) n⟩⟩
theorem kin_cx {pins : List (Addr × Obj)} {σ : L2.St} {H : Hp} {sc s' : Shared} {E : XK} {e : Value} (I1 : Inv X pins σ H sc) (hc : CX X.prog X.w X.stack H sc E e s') : X.K.In s'.heap := by
  obtain ⟨a, B, H', cls, d, _, fl, _, ub, _⟩ := id hc
  refine I1.ok.mod.kin.keeps fun b o eb => fl.1 b o (ub.keep b o (I1.bs b o eb).1 (I1.bs b o eb).2 fun hm => ?_)
  rcases List.mem_cons.mp (I1.stkSub b hm) with z | z
  · have h1 := Heap.lt_size eb
    have h2 := Nat.le_trans I1.ok.bsz I1.ok.above
    rw [z] at h1
    exact absurd (Nat.lt_of_lt_of_le h1 h2) (Nat.lt_irrefl _)
  · exact I1.ok.nofr eb z
/-- for tg in g: body, where g lets an exception out at once -/
def tForYX (tgn : TGenY) : TS := fun _ σ H => tgn σ H fun Yd Qd _ => NoY Yd Qd
theorem ps_forYX {tg iter : Expr} {body : List Stmt} {tgn : TGenY} {pos : Pos} {E : XK} (hx : Passes (CX X.prog X.w) X E) (hns : NoStop X.K E) (hp : PassesOwn (model X.prog X.w) X.A X.env X.xe) (hr : Room (k + 1) X.A) (hi : PGenY X k iter tgn E)
    (hs : ∀ x, foldedSetIterable iter X.env x = pure x := by intro _; rfl) : PS X (.For tg iter body [] pos) (tForYX tgn) := by
  refine ⟨fun pins s σ H D I h => ?_⟩
  refine wpAny_For (thn (hi.run pins s σ H _ I h) fun u s1 ⟨H1, sc, Yd, Qd, I1, G, nY⟩ => ?_) hs
  obtain ⟨a, gn, c, rfl, ha1, ha2, hgen, hgs, hos, hbr, hl, hkp, wake⟩ := G
  refine wpAny_pyIter_gen hgen ?_
  obtain ⟨N, qual, scp, f, cd, go, σ0, hgo, IG, hsz, seg⟩ := wake X.A.in1 hr.in1 I1.ok.frames
  let GX := gcxOf X.prog X.w X.K X.mg X.base N qual scp f cd X.A.in1 X.stack sc H1 E [(a, go)]
  let GF := xfG X.prog X.w qual scp f cd X.A.in1 X.stack sc H1 E [(a, go)]
  let Jn : Nat → Shared → Prop := fun n s => ∃ (gs : GenState), s.heap.IsGen a gn ∧ s.heap.NoLimit ∧ s.gens[gn]? = some gs ∧
    gs.Goes (model X.prog X.w) X.A.in1 (REndY GX GF X.prog X.w X.stack H1 a gn (eat1 sc) Qd E) (GYy GX GF (eat1 sc) Yd) n (.send .none) (s.setGen gn .running)
  refine codeAny_forLoop_any Jn ?_ sizeLine ?_
  · rintro n s5 ⟨gs, hg5, hl5, hgs5, hgo5⟩
    refine wpAny_passesOwn hp (next_genY (n := n) (A := X.A) (F := fun n s₀ s1 => ∃ ys ip σ H1' θ pk, n + ys.length = sizeLine ∧ (eat1 sc).Gd s₀ θ pk ys ∧ Inv (fam GX GF θ) (pk ++ ip) σ H1' s1 ∧ Qd ys H1')
      (Y := GYy GX GF (eat1 sc) Yd) (Er := fun s₀ e s1 => (∃ θ pk ys, (eat1 sc).Gd s₀ θ pk ys ∧ CX X.prog X.w X.stack H1 θ E e s1) ∧ s1.heap.IsGen a gn) hr.hd hl5 (by have := hr.dp; omega) hg5 hgs5 hgo5 (fun v s₁ gs' hbare hv => ?_) (fun s₁ hp' h' hk => ?_) fun e s₁ he => ?_)
    · obtain ⟨ys, x, ip, σg, Hg, θ, pk, _, _, _, _, _, hYd, _⟩ := hv
      exact (nY.1 _ _ hYd).elim
    · obtain ⟨ys, ip, σg, Hg, θ, pk, hn, hgd, JE, hQd⟩ := hp'
      exact (nY.2 _ _ hQd).elim
    · obtain ⟨⟨θ, pk, _, ⟨_, rfl⟩, hcx⟩, ig⟩ := he
      refine ⟨ig, notStop_of hns (kin_cx I1 hcx) hcx, hx pins σ H1 θ e _ I1 ?_⟩
      obtain ⟨a, B, H', cls, d, z1, fl, z2, ub, z3, z4, z5, z6⟩ := hcx
      exact ⟨a, B, H', cls, d, z1, fl, z2, ub, z3, z4, allBare_setGen z5 rfl, z6⟩
  · have hb1 : AllBare (s1.setGen gn .running).gens := allBare_setGen hbr rfl
    refine ⟨.fresh c, hgen, hl, hgs, ⟨rfl, ?_⟩⟩
    exact seg (eat1 sc) (s1.setGen gn .running) sc [] ⟨rfl, rfl⟩ (IG.call' (ch := []) rfl (Un.kept fun b o e => e) (IG.hok.kept fun b o e => e) hb1 fun b z => by simp at z)
end
theorem passes_fam {P : Program} {w : World} {K : PySem.W.Frag} {mg : Str → Option Value} {base : Heap} {N : List Str} {qual : Str} {scope : Scope} {f : Addr} {cd : Value} {A : Around} {outer : List Env} {s : Shared} {H : Hp} {E : XK} {pn : List (Addr × Obj)} {θ : Shared} : Passes (L2.CX P w) (famG P w K mg base N qual scope f cd A outer s H E pn θ) E :=
  passes_call takes_fam (fun _ _ _ _ h => h)
end Ru

namespace Ru
open PySem PySem.Spec PyProof.Rows L2 LamX
theorem ws_cat2 {X : Cx} {T : List (Addr × Str)} {H H0 : Hp} {W : Addr} {ls : List Lm} {j : Nat} {σ : L2.St} {pa pa2 : Arguments} {bo bo2 : Expr} {sc sc2 : Scope} {ds ds2 : List V} {Q : VK} (w : WS X T H0 H W ls) (hj : σ[j]? = some (some (.ref W))) (hz : ls.length ≤ 1000)
    (k : ∀ W' H' f f2, WS X T H0 H' W' (ls ++ [⟨f, pa, bo, sc, ds⟩, ⟨f2, pa2, bo2, sc2, ds2⟩]) → Q (.ref W') H') :
    tOp rCat (tVar j) (tLst (tCons (tLamV T X pa bo sc ds) (tCons (tLamV T X pa2 bo2 sc2 ds2) tNil))) σ H Q :=
  ⟨_, hj, w.tab, fun f H1 e1 t1 _ la => ⟨t1, fun f2 H2 e2 t2 _ la2 => ⟨by show 2 ≤ sizeLine; decide, fun m nm => by
    have hW := e2 _ _ (e1 _ _ w.at_ (fun _ z => nomatch z)) (fun _ z => nomatch z)
    have s := sameU (o := .lst [V.ref f, V.ref f2]) nm
    refine ⟨W, m, _, _, rfl, rfl, s _ _ hW, upd_same, by rw [List.length_map]; show ls.length + 2 ≤ sizeLine; exact Nat.le_trans (Nat.add_le_add_right hz 2) (by decide), fun W' nW' => ?_⟩
    have h := WS.start (X := X) (T := T) (ls := ls ++ [⟨f, pa, bo, sc, ds⟩, ⟨f2, pa2, bo2, sc2, ds2⟩]) ((w.ext.trans (e1.trans e2)).trans (ExtN.of s)) (t2.ext s) (fun l h => by
      rcases List.mem_append.mp h with h | h
      · exact (((w.lam l h).ext e1).ext e2).same s
      · rcases List.mem_cons.mp h with rfl | h
        · exact (la.ext e2).same s
        · rcases List.mem_singleton.mp h with rfl; exact la2.same s) nW'
    rw [List.map_append] at h
    exact k W' _ f f2 h⟩⟩⟩
/-- [(s, n) for n in ns] -/
theorem lc_pairs {K : PySem.W.Frag} {i j : Nat} {a : Addr} {s : Str} {ns : List Int} {σ : L2.St} {H : Hp} {Q : VK} (hj : σ[j]? = some (some (.ref a))) (hi : i < σ.length) (hl : SqL K H a (ns.map V.int)) (l1 : ns.length ≤ 1000)
    (go : ∀ D H', Same H H' → DL H' D (ns.map fun n => [.str s, .int n]) → Q (.ref D) H') :
    tLc (iList K (tVar j)) (gName i) tYes (tTup (tCons (tC (.str s)) (tCons (tVar i) tNil))) [i] σ H Q := by
  refine ⟨_, hj, a, rfl, ⟨_, hl⟩, fun D hD => lc_list (K := K) (a := a) (xs := ns.map V.int)
    (fun m H' => Same H H' ∧ m ≤ ns.length ∧ DL H' D ((ns.take m).map fun n => [.str s, .int n])) ?_ ?_ ?_ ?_⟩
  · exact ⟨fun b o e => by rw [upd_ne (ne_of_none e hD)]; exact e, Nat.zero_le _, [], upd_same, rfl, fun n p r e => by simp at e⟩
  · rintro m H' hm ⟨fr, _⟩
    exact Same.seq fr hl
  · rintro m x H' hx ⟨fr, _, ps, hD', lp, hp⟩
    rw [List.getElem?_map] at hx
    cases e : ns[m]? with
    | none => rw [e] at hx; cases hx
    | some n =>
      rw [e] at hx
      cases hx
      have lm := (List.getElem?_eq_some_iff.mp e).1
      have lp' : ps.length = m := by rw [lp, List.length_map, List.length_take]; omega
      have hw : (wipe σ [i]).length = σ.length := wipe_length σ [i]
      refine ⟨?_, ?_⟩
      · show ((wipe σ []).set i none |>.set i (some (V.int n))).set i none = (wipe σ []).set i none
        rw [List.set_set, List.set_set]
      unfold tYes
      simp only [if_true]
      refine ⟨_, List.getElem?_set_self (by rw [hw]; exact hi), by show 2 ≤ sizeLine; decide, fun p np => ?_⟩
      have npD : D ≠ p := fun z => by rw [← z, hD'] at np; cases np
      refine ⟨_, by rw [upd_ne npD]; exact hD', by rw [List.length_map, lp']; exact Nat.lt_of_lt_of_le lm (Nat.le_trans l1 (by decide)), fun b o e => ?_, lm, ps ++ [p], by rw [upd_same, List.map_append]; rfl, ?_, fun q v r e1 e2 => ?_⟩
      · rw [upd_ne (ne_of_none e hD), upd_ne (fun z => by rw [z] at e; have := fr _ _ e; rw [np] at this; cases this)]
        exact fr _ _ e
      · rw [List.length_append, lp', List.length_map, List.length_take]
        show m + 1 = _
        omega
      · rw [List.take_succ, e, List.map_append] at e2
        rcases Nat.lt_or_ge q ps.length with l | g
        · rw [List.getElem?_append_left l] at e1
          rw [List.getElem?_append_left (by rw [← lp]; exact l)] at e2
          have h := hp q v r e1 e2
          rw [upd_ne (fun z => by rw [z, hD'] at h; cases h), upd_ne (fun z => by rw [z, np] at h; cases h)]
          exact h
        · have eq : q = ps.length := by
            have := (List.getElem?_eq_some_iff.mp e1).1
            rw [List.length_append, List.length_singleton] at this
            omega
          subst eq
          rw [List.getElem?_append_right (Nat.le_refl _), Nat.sub_self] at e1
          rw [List.getElem?_append_right (by rw [lp]; exact Nat.le_refl _), lp, Nat.sub_self] at e2
          cases e1
          cases e2
          rw [upd_ne (Ne.symm npD), upd_same]
  · rintro H' ⟨fr, _, h⟩
    have e : (ns.take (ns.map V.int).length) = ns := by rw [List.length_map, List.take_length]
    rw [e] at h
    exact go D H' fr h
end Ru

namespace Ru
open PySem PySem.Spec PyProof.Rows L2
/-- x.m(..), x an instance of one of several classes -/
def tMethV (X : Cx) (k : Nat) (m : Str) (ta : TE) (t : TA) : TE := fun σ H Q => ∃ C f fd ps sp, Cls X.K C ∧ Meth X.K C m f ∧ FnOk X.prog X.w X.K X.mg X.base CX0 k f fd ps sp ∧ Binds X.K fd ps [] ∧ tMeth C m sp [] E0 ta t σ H Q
theorem pe_methV {X : Cx} {k : Nat} {o e : Expr} {es : List Expr} {ta : TE} {t : TA} {m : Str} {pos apos : Pos} {pl : Sem Bool} (he : PE X o ta) (hr : Room k X.A) (ha : PA X (e :: es) t)
    (hst : starEach (e :: es) X.env = (false, eval e X.env) :: starEach es X.env := by rfl) (hpl : (backTo pos (starEach es X.env)).any (·.1) = false := by rfl)
    (ht : eval (.Call (.Attribute o m apos) (e :: es) [] pos) X.env = (do
      let ov ← eval o X.env
      standAt apos.atName
      let (f, first) ← holding [ov] (getMethod ov m pl)
      callWith pos f first (backTo pos (starEach (e :: es) X.env)) (backToKw pos (keywordEach [] X.env))) := by rfl) :
    PE X (.Call (.Attribute o m apos) (e :: es) [] pos) (tMethV X k m ta t) :=
  ⟨fun pins s σ H Q I ⟨C, f, fd, ps, sp, c, hm, F, hb, h⟩ => (pe_meth (pl := pl) he c hm F hr hb .nil pass0 ha hst hpl ht).run pins s σ H Q I h⟩
end Ru

namespace W6
open PySem PySem.Spec PyProof.Rows L2 Ru StX LamX
/-- the error InvalidSetting with an index, behind the making of x -/
def BadF (er : Er2) (x : Addr) (i : Int) (H : Hp) (E : XK) : Prop := ∀ d H', Fr1 x H H' → H' d = some (.xd [(("index" : Str), .int i)]) → E (.ref er.x) (some d) H'
section
variable (K : PySem.W.Frag) (a : Ad) (er : Er2)
def spStiX : Sp := fun vs H Q E => ∃ (x C dx : Addr) (lo hi : Int), vs = [.ref x, .int lo, .int hi] ∧ H x = some (.ins C dx []) ∧ Cls K C ∧ NoAttr K C "_low" ∧ NoAttr K C "_high" ∧ (thrOk lo hi = true → ∀ H', Fr1 x H H' → H' x = some (.ins C dx [("_low", .int lo), ("_high", .int hi)]) → Q .non H') ∧ (thrOk lo hi = false → BadF er x 0 H E)
def spHoiX : Sp := fun vs H Q E => ∃ (x dx t : Addr) (L : Int) (qs : List Addr) (ps : List (Int × Int × Int)), vs = [.ref x, .int L, .ref t] ∧ H x = some (.ins a.c_HourSetting dx []) ∧ H t = some (.tup (qs.map V.ref)) ∧ PartsAt H qs ps ∧ ps.length ≤ 1000 ∧ (¬ (1 ≤ L ∧ L ≤ 24) → BadF er x (-1) H E) ∧ (1 ≤ L → L ≤ 24 → (∀ i, fip L ps = some i → BadF er x i H E) ∧ (fip L ps = none → ∀ H', Fr1 x H H' → HourAt a H' x L.toNat ps → Q .non H'))
def spHosX : Sp := fun vs H Q E => ∃ ws rest, vs = ws ++ rest ∧ ws.length = ["self", "length"].length ∧ rest.length ≤ sizeLine ∧ ∀ p, H p = Option.none → spHoiX a er (ws ++ [V.ref p]) (upd H p (.tup rest)) Q E
def spRsiX : Sp := fun vs H Q E => ∃ (x dx : Addr) (lo hi r : Int), vs = [.ref x, .int lo, .int hi, .int r] ∧ H x = some (.ins a.c_RestSetting dx []) ∧ (thrOk lo hi = false → BadF er x 0 H E) ∧ (thrOk lo hi = true → ¬ (0 ≤ r ∧ r ≤ 1000) → BadF er x 1 H E) ∧ (thrOk lo hi = true → 0 ≤ r → r ≤ 1000 → ∀ H', Fr1 x H H' → RestAt a H' x lo hi r → Q .non H')
/-- a number that is out of its range -/
def BadW (g st n : Int) : Prop := ¬ (1 ≤ g ∧ g ≤ 200) ∨ ¬ (-1000000000000 ≤ st ∧ st ≤ 1000000000000) ∨ ¬ (0 ≤ n ∧ n ≤ 10000)
def spWatchX : SpY := fun vs H Yd Qd E => ∃ (x y : V) (g st n : Int), vs = [x, .int g, y, .int st, .int n] ∧ BadW g st n ∧ NoY Yd Qd ∧ E (.ref er.n) none H
def spTotalsX : Sp := fun vs H Q E => ∃ (x y : V) (g st n : Int), vs = [x, .int g, y, .int st, .int n] ∧ BadW g st n ∧ ∀ H', Same H H' → E (.ref er.n) none H'
end
def onE (C : Addr) (E : XK) : XK := fun cls d H => (cls = .ref C ∧ d = none) ∧ E cls d H
theorem onE_ns {K : PySem.W.Frag} {C : Addr} {E : XK} (h : PySem.W.subIn K (.ref C) (.type "StopIteration") = some false) : NoStop K (onE C E) := fun cls d H q => by
  rw [q.1.1]; exact h
theorem fip_len {L : Int} {ps : List (Int × Int × Int)} {i : Nat} (h : fip L ps = some i) : i ≤ ps.length := by
  have go : ∀ (ps : List (Int × Int × Int)) (j : Nat) (b : Int), fipGo L j b ps = some i → i ≤ j + ps.length := by
    intro ps
    induction ps with
    | nil => intro j b h; cases h
    | cons p r ih =>
      intro j b h
      unfold fipGo at h
      split at h
      · cases h; omega
      · split at h
        · cases h; omega
        · have := ih (j + 1) p.1 h
          rw [List.length_cons]; omega
  unfold fip at h
  split at h
  · cases h; omega
  · have := go ps 0 (-1) h
    omega
section
variable {P : Program} {w : World} {K : PySem.W.Frag} {mg : Str → Option Value} {base : Heap} {a : Ad} {er : Er2}
theorem okx_Setting_init (T : Txt K mg a) (ER : E2T P K mg er) : FnOk P w K mg base (L2.CX P w) 2 a.f_Setting_init a.d_Setting_init ["self", "low", "high"] (spStiX K er) := by
  have G_can_be_thresholds : FnOk P w K mg base CX0 1 a.f_can_be_thresholds a.d_can_be_thresholds ["low", "high"] spCb := ok_can_be_thresholds T
  refine T.F_Setting_init.okX sc_Setting_init (fun vs H Q E h => ?_) (fun cdv A outer s H vs Q E hr h => ?_)
  · obtain ⟨x, C, dx, lo, hi, rfl, _⟩ := h
    rfl
  · obtain ⟨x, C, dx, lo, hi, rfl, hx, cl, n1, n2, k, kb⟩ := h
    refine ⟨_, (pss_cons (ps_if (pt_not (pt_val (pe_call G_can_be_thresholds (hr.mono (by decide)) (by rfl) T.mg_can_be_thresholds T.F_can_be_thresholds.kp (b_can_be_thresholds T) .nil pass0 (pa_cons (pv 1) (pa_cons (pv 2) pa_nil))))) (pss_one (ps_raiseIx rfl ER.x.ix hr (takes_of rfl rfl rfl rfl) (pa_cons pe_int pa_nil) rfl)) pss_nil)
      (pss_cons (ps_fld (pv 0) (pv 1) rfl)
      (pss_one (ps_fld (pv 0) (pv 2) rfl)))), ?_⟩
    refine ⟨_, rfl, _, rfl, lo, hi, rfl, ?_⟩
    by_cases tk : thrOk lo hi = true
    · have tk' : decide (-1000000000000 ≤ lo ∧ lo ≤ hi ∧ hi ≤ 1000000000000) = true := tk
      rw [tk']
      refine ⟨_, rfl, ?_⟩
      refine ifF rfl ?_
      refine ⟨_, rfl, _, rfl, x, C, dx, _, rfl, hx, cl, n1, by show 0 < 1000; decide, ?_⟩
      refine ⟨_, rfl, _, rfl, x, C, dx, _, rfl, upd_same, cl, n2, by show 1 < 1000; decide, ?_⟩
      exact k tk _ (Fr1.upd.trans Fr1.upd) (by rw [upd_same]; rfl)
    · have tk : thrOk lo hi = false := by simpa using tk
      have tk' : decide (-1000000000000 ≤ lo ∧ lo ≤ hi ∧ hi ≤ 1000000000000) = false := tk
      rw [tk']
      refine ⟨_, rfl, ?_⟩
      refine ifT rfl ?_
      exact ⟨0, rfl, by decide, fun d hd => kb tk d _ (Fr1.of (same_upd hd)) upd_same⟩
theorem okx_HourSetting_init (T : Txt K mg a) (ER : E2T P K mg er) : FnR P w K mg base (L2.CX P w) 3 a.f_HourSetting_init (spHosX a er) := by
  have G_first_invalid_part : FnOk P w K mg base CX0 2 a.f_first_invalid_part a.d_first_invalid_part ["length", "parts"] spFip := ok_first_invalid_part T
  obtain ⟨oc, od, kV, doc, pm, an, cdv, ct, osl, e, lk, hcd⟩ := T.F_HourSetting_init.ex
  rw [e] at lk
  refine fn_star (ps := ["self", "length"]) (pv := "parts") (sp := spHoiX a er) lk hcd sc_HourSetting_init cxUp (bind_star2 (B := fun us => bindArgs (PySem.W.fnOf "__init__" "HourSetting.__init__" (defArgs s_HourSetting_init) (defBody s_HourSetting_init) (defScope s_HourSetting_init) .none kV doc pm an cdv ct) ⟨us, []⟩) (fun _ _ => rfl) (fun _ _ _ _ => rfl)) (fun A outer s H vs Q E hr h => ?_)
  obtain ⟨x, dx, t, L, qs, ps, rfl, hx, ht, pa, pl, kl, kk⟩ := h
  obtain ⟨tt, cvT⟩ := T.cv_HourSetting_MAX_LENGTH
  have ntx : t ≠ x := ne_of ht hx (fun z => nomatch z)
  refine ⟨_, (pss_cons (ps_if (pt_not (pt_chain op_le op_le pe_int (pv 1) (pe_con (pv 0) rfl))) (pss_one (ps_raiseIx rfl ER.x.ix hr (takes_of rfl rfl rfl rfl) (pa_cons (pe_un un_neg pe_int) pa_nil) rfl)) pss_nil)
      (pss_cons (ps_set (i := 3) sc_HourSetting_init.nd rfl (Or.inl rfl) (pe_call G_first_invalid_part (hr.mono (by decide)) (by rfl) T.mg_first_invalid_part T.F_first_invalid_part.kp (b_first_invalid_part T) .nil pass0 (pa_cons (pv 1) (pa_cons (pv 2) pa_nil))))
      (pss_cons (ps_if (pt_cmpR op_notN (pv 3) pe_non (nomark _)) (pss_one (ps_raiseIx rfl ER.x.ix hr (takes_of rfl rfl rfl rfl) (pa_cons (pv 3) pa_nil) rfl)) pss_nil)
      (pss_cons (ps_fld (pv 0) (pv 1) rfl)
      (pss_one (ps_fld (pv 0) (pv 2) rfl)))))), ?_⟩
  refine ⟨_, rfl, _, _, rfl, rfl, _, rfl, ?_⟩
  by_cases l1 : 1 ≤ L
  · refine ifT (dT l1) ?_
    refine ⟨_, rfl, x, _, dx, _, _, _, rfl, hx, T.cl_HourSetting, cvT, rfl, _, _, rfl, rfl, _, rfl, ?_⟩
    by_cases l24 : L ≤ 24
    · refine ifF (nF l24) ?_
      obtain ⟨kb, k⟩ := kk l1 l24
      refine ⟨_, rfl, _, rfl, t, _, qs, ps, rfl, ht, pa, fun H1 s1 => ?_⟩
      cases fn : fip L ps with
      | none =>
        refine ⟨_, rfl, rfl, _, rfl, ifF rfl ?_⟩
        refine ⟨_, rfl, _, rfl, x, _, dx, _, rfl, s1 _ _ hx, T.cl_HourSetting, T.na_HourSetting__length, by show 0 < 1000; decide, ?_⟩
        refine ⟨_, rfl, _, rfl, x, _, dx, _, rfl, upd_same, T.cl_HourSetting, T.na_HourSetting__parts, by show 1 < 1000; decide, ?_⟩
        have f1 : Fr1 x H H1 := Fr1.of s1
        have eL : ((L.toNat : Nat) : Int) = L := by omega
        refine k fn _ ((f1.trans Fr1.upd).trans Fr1.upd) ⟨by omega, by rw [eL]; exact fn, dx, t, qs, by rw [upd_same, eL]; rfl, ?_, ?_⟩
        · rw [upd_ne ntx, upd_ne ntx]; exact s1 _ _ ht
        · refine ⟨pa.1, fun i q p a b => ?_⟩
          have hq := s1 _ _ (pa.2 i q p a b)
          have nq : q ≠ x := ne_of hq (s1 _ _ hx) (fun z => nomatch z)
          rw [upd_ne nq, upd_ne nq]; exact hq
      | some i =>
        refine ⟨_, rfl, rfl, _, rfl, ifT rfl ?_⟩
        have := fip_len fn
        exact ⟨_, rfl, (i : Int), rfl, log_small (by omega), fun d hd => kb i fn d _ (Fr1.of (s1.trans (same_upd hd))) upd_same⟩
    · refine ifT (nT l24) ?_
      exact ⟨_, rfl, (-1 : Int), rfl, by decide, fun d hd => kl (fun z => l24 z.2) d _ (Fr1.of (same_upd hd)) upd_same⟩
  · refine ifF (dF l1) ⟨_, rfl, ifT rfl ?_⟩
    exact ⟨_, rfl, (-1 : Int), rfl, by decide, fun d hd => kl (fun z => l1 z.1) d _ (Fr1.of (same_upd hd)) upd_same⟩
theorem okx_RestSetting_init (T : Txt K mg a) (SW : StC P K mg a) (ER : E2T P K mg er) : FnOk P w K mg base (L2.CX P w) 3 a.f_RestSetting_init a.d_RestSetting_init ["self", "low", "high", "rest"] (spRsiX a er) := by
  have Gx_Setting_init := okx_Setting_init (w := w) (base := base) T ER
  obtain ⟨oc, od, osl, doc, pm, an, cda, cc, ct, e, lk, hcd, ⟨cl, cld, csl, hcell⟩, SU⟩ := SW.ini
  rw [e]
  rw [e] at lk SU
  refine fn_super (N := ["self", "low", "high", "rest", "__class__"]) lk hcd sc_RestSetting_init hcell (fun vs H Q E h => ?_) (fun A outer s H vs Q E hr h => ?_)
  · obtain ⟨x, dx, lo, hi, r, rfl, _⟩ := h
    rfl
  · obtain ⟨x, dx, lo, hi, r, rfl, hx, kt, kr, k⟩ := h
    refine ⟨_, (psAt_expr (pe_super SU (toR Gx_Setting_init (b_Setting_init T)) (hr.mono (by decide)) (passes_call (takes_of rfl rfl rfl rfl) (fun _ _ _ _ h => h)) (pa_cons (pv 1) (pa_cons (pv 2) pa_nil)) rfl rfl rfl rfl rfl rfl rfl rfl rfl rfl rfl (by decide) rfl rfl ⟨_, rfl⟩) (pss_cons (ps_if (pt_not (pt_chain op_le op_le pe_int (pv 3) (pe_glob (v := .int 1000) rfl T.mg_MOST_REST.choose_spec ⟨_, rfl⟩))) (pss_one (ps_raiseIx rfl ER.x.ix hr (takes_of rfl rfl rfl rfl) (pa_cons pe_int pa_nil) rfl)) pss_nil)
      (pss_one (ps_fld (pv 0) (pv 3) rfl))) rfl), ?_⟩
    refine ⟨x, dx, _, rfl, hx, _, rfl, _, rfl, x, _, dx, lo, hi, rfl, hx, T.cl_RestSetting, T.na_RestSetting__low, T.na_RestSetting__high, fun tk H1 f1 h1 => ?_, kt⟩
    refine ⟨_, rfl, _, _, rfl, rfl, _, rfl, ?_⟩
    by_cases r0 : 0 ≤ r
    · refine ifT (dT r0) ?_
      refine ⟨_, _, rfl, rfl, _, rfl, ?_⟩
      by_cases r1 : r ≤ 1000
      · refine ifF (nF r1) ?_
        refine ⟨_, rfl, _, rfl, x, _, dx, _, rfl, h1, T.cl_RestSetting, T.na_RestSetting__rest, by show 2 < 1000; decide, ?_⟩
        exact k tk r0 r1 _ (f1.trans Fr1.upd) ⟨dx, by rw [upd_same]; rfl⟩
      · refine ifT (nT r1) ?_
        exact ⟨(1 : Int), rfl, by decide, fun d hd => kr tk (fun z => r1 z.2) d _ (f1.trans (Fr1.of (same_upd hd))) upd_same⟩
    · refine ifF (dF r0) ⟨_, rfl, ifT rfl ?_⟩
      exact ⟨(1 : Int), rfl, by decide, fun d hd => kr tk (fun z => r0 z.1) d _ (f1.trans (Fr1.of (same_upd hd))) upd_same⟩
theorem x_watch (T : Txt K mg a) (ER : E2T P K mg er) : GFnY P w K mg base 4 a.f_watch a.d_watch ["weather", "gain", "setting", "start", "count"] (spWatchX er) := by
  have Gx_check_number := okx_check_number (P := P) (w := w) (base := base) T ER
  refine gokY T.F_watch sc_watch (fun vs H Yd Qd E h => ?_) (fun cdv A outer s H vs Yd Qd E pn hr h => ?_)
  · obtain ⟨x, y, g, st, n, rfl, _⟩ := h
    rfl
  · obtain ⟨x, y, g, st, n, rfl, bad, ny, he⟩ := h
    refine ⟨_, (gys_cons (gy_ps (fun _ => (ps_expr (pe_call Gx_check_number (hr.mono (by decide)) (by rfl) T.mg_check_number T.F_check_number.kp (b_check_number T) .nil passes_fam (pa_cons (pv 1) (pa_cons pe_int (pa_cons (pe_glob (v := .int 200) rfl T.mg_MOST_GAIN.choose_spec ⟨_, rfl⟩) pa_nil)))))))
      (gys_cons (gy_ps (fun _ => (ps_expr (pe_call Gx_check_number (hr.mono (by decide)) (by rfl) T.mg_check_number T.F_check_number.kp (b_check_number T) .nil passes_fam (pa_cons (pv 3) (pa_cons (pe_un un_neg (pe_glob (v := .int 1000000000000) rfl T.mg_MOST_DEGREES.choose_spec ⟨_, rfl⟩)) (pa_cons (pe_glob (v := .int 1000000000000) rfl T.mg_MOST_DEGREES.choose_spec ⟨_, rfl⟩) pa_nil)))))))
      (gys_cons (gy_ps (fun _ => (ps_expr (pe_call Gx_check_number (hr.mono (by decide)) (by rfl) T.mg_check_number T.F_check_number.kp (b_check_number T) .nil passes_fam (pa_cons (pv 4) (pa_cons pe_int (pa_cons (pe_glob (v := .int 10000) rfl T.mg_MOST_WATCHED.choose_spec ⟨_, rfl⟩) pa_nil)))))))
      (gys_pss (fun _ => pss_never))))), ?_⟩
    refine ⟨_, rfl, g, 1, 200, rfl, fun g0 => ?_, fun _ => he⟩
    refine ⟨_, rfl, _, rfl, st, -1000000000000, 1000000000000, rfl, fun s0 => ?_, fun _ => he⟩
    refine ⟨_, rfl, n, 0, 10000, rfl, fun n0 => ?_, fun _ => he⟩
    exact (bad.elim (fun z => z g0) fun z => z.elim (fun z => z s0) fun z => z n0)
theorem x_totals (T : Txt K mg a) (ER : E2T P K mg er) (NS : PySem.W.subIn K (.ref er.n) (.type "StopIteration") = some false) : FnOk P w K mg base (L2.CX P w) 6 a.f_totals a.d_totals ["weather", "gain", "setting", "start", "count"] (spTotalsX er) := by
  have Gx_watch := x_watch (w := w) (base := base) T ER
  refine T.F_totals.okX sc_totals (fun vs H Q E h => ?_) (fun cdv A outer s H vs Q E hr h => ?_)
  · obtain ⟨x, y, g, st, n, rfl, _⟩ := h
    rfl
  · obtain ⟨x, y, g, st, n, rfl, bad, he⟩ := h
    refine ⟨_, (pss_cons (ps_asg (pe_tup (pa_cons pe_int (pa_cons pe_int (pa_cons pe_non (pa_cons pe_bl pa_nil))))) (pg_tup rfl (pgs_cons (pg_name (i := 5) sc_totals.nd rfl (Or.inl rfl)) (pgs_cons (pg_name (i := 6) sc_totals.nd rfl (Or.inl rfl)) (pgs_cons (pg_name (i := 7) sc_totals.nd rfl (Or.inl rfl)) (pgs_cons (pg_name (i := 8) sc_totals.nd rfl (Or.inl rfl)) pgs_nil))))))
      (pss_cons (ps_forYX (E := onE er.n E) (passes_call (takes_of rfl rfl rfl rfl) (fun _ _ _ _ h => h.2)) (onE_ns NS) (passes_of rfl) (hr.mono (by decide)) (pgen_callY (E := onE er.n E) Gx_watch (hr.mono (by decide)) (by rfl) T.mg_watch T.F_watch.kp (b_watch T) .nil (pa_cons (pv 0) (pa_cons (pv 1) (pa_cons (pv 2) (pa_cons (pv 3) (pa_cons (pv 4) pa_nil)))))))
      pss_never)), ?_⟩
    refine ⟨by show 4 ≤ sizeLine; decide, fun p0 np0 => ⟨p0, _, rfl, SqT.of upd_same, rfl, _, _, rfl, _, _, rfl, _, _, rfl, _, _, rfl, rfl, ?_⟩⟩
    exact ⟨_, rfl, _, rfl, _, rfl, _, rfl, _, rfl, fun _ _ => False, fun _ _ => False, ⟨x, y, g, st, n, rfl, bad, ⟨fun _ _ z => z, fun _ _ z => z⟩, ⟨rfl, rfl⟩, he _ (same_upd np0)⟩, ⟨fun _ _ z => z, fun _ _ z => z⟩⟩
end
end W6

set_option maxHeartbeats 4000000
namespace W6
open PySem PySem.Spec PyProof.Rows L2 Ru StX LamX
theorem ws_appendS {X : Cx} {T : List (Addr × Str)} {H0 H : Hp} {W : Addr} {ls : List Lm} {K : PySem.W.Frag} {j : Nat} {σ : L2.St} {D : Ends} {u : TS} {pa : Arguments} {bo : Expr} {sc : Scope} {ds : List V} (w : WS X T H0 H W ls) (hj : σ[j]? = some (some (.ref W))) (hz : ls.length ≤ 1000) (k : ∀ H' f, WS X T H0 H' W (ls ++ [⟨f, pa, bo, sc, ds⟩]) → u D σ H') : tSeq (tDrop (tBM K "list" rAppend (tVar j) (tCons (tLamV T X pa bo sc ds) tNil))) u D σ H :=
  ws_append (D := { D with nx := u D }) w hj hz k
def spRefS (Tb : List (Addr × Str)) : Sp := fun vs H Q _ => ∃ (z : Addr), vs = [.ref z] ∧ Tabs Tb H ∧ ∀ H', Q (.bl true) H'
section
variable {P : Program} {w : World} {K : PySem.W.Frag} {mg : Str → Option Value} {base : Heap} {a : Ad} {er : Er2}
theorem setting_inX (T : Txt K mg a) {H : Hp} {R : VK} {E : XK} {lo hi : Int} {s ds : Addr} (ns : H s = none) (nds : H ds = none) (tk : thrOk lo hi = false) (go : ∀ d H'', Same H H'' → H'' d = some (.xd [(("index" : Str), .int 0)]) → E (.ref er.x) (some d) H'') : spStiX K er (V.ref s :: ([.int lo, .int hi] ++ [])) (upd (upd H ds (.own s)) s (.ins a.c_Setting ds [])) R E :=
  ⟨s, a.c_Setting, ds, lo, hi, rfl, upd_same, T.cl_Setting, T.na_Setting__low, T.na_Setting__high, (fun z => by rw [tk] at z; cases z), fun _ d H' fr hd => go d H' (Fr1.made ns nds fr) hd⟩
theorem setting_made (T : Txt K mg a) {H : Hp} {R : VK} {E : XK} {lo hi : Int} {s ds : Addr} (tk : thrOk lo hi = true) (ns : H s = none) (nds : H ds = none) (k : ∀ H', Same H H' → SetAt a H' s lo hi → R .non H') : spSti K (V.ref s :: ([.int lo, .int hi] ++ [])) (upd (upd H ds (.own s)) s (.ins a.c_Setting ds [])) R E :=
  ⟨s, a.c_Setting, ds, lo, hi, rfl, upd_same, T.cl_Setting, T.na_Setting__low, T.na_Setting__high, tk, fun H' fr e => k H' (Fr1.made ns nds fr) ⟨ds, e⟩⟩
theorem rest_inX {H : Hp} {R : VK} {E : XK} {lo hi r : Int} {s ds : Addr} {i : Int} (ns : H s = none) (nds : H ds = none) (bad : (thrOk lo hi = false ∧ i = 0) ∨ (thrOk lo hi = true ∧ ¬ (0 ≤ r ∧ r ≤ 1000) ∧ i = 1)) (go : ∀ d H'', Same H H'' → H'' d = some (.xd [(("index" : Str), .int i)]) → E (.ref er.x) (some d) H'') : spRsiX a er (V.ref s :: [.int lo, .int hi] ++ [.int r]) (upd (upd H ds (.own s)) s (.ins a.c_RestSetting ds [])) R E := by
  refine ⟨s, ds, lo, hi, r, rfl, upd_same, fun tk => ?_, fun tk hr => ?_, fun tk r0 r1 => ?_⟩
  · rcases bad with ⟨_, rfl⟩ | ⟨z, _⟩
    · exact fun d H' fr hd => go d H' (Fr1.made ns nds fr) hd
    · rw [tk] at z; cases z
  · rcases bad with ⟨z, _⟩ | ⟨_, _, rfl⟩
    · rw [tk] at z; cases z
    · exact fun d H' fr hd => go d H' (Fr1.made ns nds fr) hd
  · rcases bad with ⟨z, _⟩ | ⟨_, z, _⟩
    · rw [tk] at z; cases z
    · exact absurd ⟨r0, r1⟩ z
theorem hours_inX {H : Hp} {R : VK} {E : XK} {L : Int} {qs : List Addr} {ps : List (Int × Int × Int)} {s ds : Addr} {i : Int} (pa : PartsAt H qs ps) (pl : ps.length ≤ 1000) (ns : H s = none) (nds : H ds = none) (bad : (¬ (1 ≤ L ∧ L ≤ 24) ∧ i = -1) ∨ ((1 ≤ L ∧ L ≤ 24) ∧ ∃ n : Nat, fip L ps = some n ∧ i = n)) (go : ∀ d H'', Same H H'' → H'' d = some (.xd [(("index" : Str), .int i)]) → E (.ref er.x) (some d) H'') :
    spHosX a er (V.ref s :: .int L :: qs.map V.ref) (upd (upd H ds (.own s)) s (.ins a.c_HourSetting ds [])) R E := by
  have ql : qs.length ≤ 1000 := by rw [pa.1]; exact pl
  refine ⟨[.ref s, .int L], qs.map V.ref, rfl, rfl, by rw [List.length_map]; exact Nat.le_of_lt (small1000 ql), fun p hp => ?_⟩
  have s1 := same_upd (o := .tup (qs.map V.ref)) hp
  refine ⟨s, ds, p, L, qs, ps, rfl, s1 _ _ upd_same, upd_same, (pa.same (same_made ns nds)).same s1, pl, fun nl => ?_, fun l1 l24 => ⟨fun j hj => ?_, fun fn => ?_⟩⟩
  · rcases bad with ⟨_, rfl⟩ | ⟨z, _⟩
    · exact fun d H' fr hd => go d H' (Fr1.made ns nds ((Fr1.of s1).trans fr)) hd
    · exact absurd z nl
  · rcases bad with ⟨z, _⟩ | ⟨_, n, hn, rfl⟩
    · exact absurd ⟨l1, l24⟩ z
    · rw [hj] at hn
      cases hn
      exact fun d H' fr hd => go d H' (Fr1.made ns nds ((Fr1.of s1).trans fr)) hd
  · rcases bad with ⟨z, _⟩ | ⟨_, n, hn, _⟩
    · exact absurd ⟨l1, l24⟩ z
    · rw [fn] at hn; cases hn
theorem parts_nil {H : Hp} : PartsAt H [] [] := ⟨rfl, fun i q p e => by simp at e⟩
theorem parts_cons {H : Hp} {q : Addr} {p : Int × Int × Int} {qs : List Addr} {ps : List (Int × Int × Int)} (h : H q = some (.tup [.int p.1, .int p.2.1, .int p.2.2])) (r : PartsAt H qs ps) : PartsAt H (q :: qs) (p :: ps) := ⟨congrArg (· + 1) r.1, fun i x y e1 e2 => match i, e1, e2 with
  | 0, e1, e2 => by cases e1; cases e2; exact h
  | i + 1, e1, e2 => r.2 i x y e1 e2⟩
theorem ok__law_refused {cf Pf : Addr} {Tb : List (Addr × Str)} (T : Txt K mg a) (SW : StC P K mg a) (ER : E2T P K mg er) (NS : PySem.W.subIn K (.ref er.n) (.type "StopIteration") = some false) (hcf : a.d__law_refused.code = .ref cf) (TBf : TabB base mg cf Pf) (hmem : (Pf, (("_law_refused" : Str) ++ ".<locals>.") ++ "<lambda>") ∈ Tb) (huni : ∀ p ∈ Tb, p.1 = Pf → p.2 = (("_law_refused" : Str) ++ ".<locals>.") ++ "<lambda>") : FnOk P w K mg base CX0 13 a.f__law_refused a.d__law_refused ["_law_sky"] (spRefS Tb) := by
  have Gx_Setting_init := okx_Setting_init (P := P) (w := w) (base := base) T ER
  have Gx_HourSetting_init := okx_HourSetting_init (P := P) (w := w) (base := base) T ER
  have Gx_RestSetting_init := okx_RestSetting_init (P := P) (w := w) (base := base) T SW ER
  have Gx_watch := x_watch (P := P) (w := w) (base := base) T ER
  have Gx_totals := x_totals (P := P) (w := w) (base := base) T ER NS
  have G_Setting_init := ok_Setting_init (P := P) (w := w) (base := base) T
  have kbr := rest_kb SW
  refine okC T.F__law_refused hcf sc__law_refused (fun vs H Q E h => ?_) (fun A outer s H vs Q E hr h => ?_)
  · obtain ⟨z, rfl, _⟩ := h
    rfl
  · obtain ⟨z, rfl, hT, k⟩ := h
    refine ⟨_, (pss_cons (ps_set (i := 1) sc__law_refused.nd rfl (Or.inr rfl) (pe_op op_pow pe_int pe_int))
      (pss_cons (ps_set (i := 2) sc__law_refused.nd rfl (Or.inl rfl) (pe_lst (pa_cons (pe_lam0 (T := Tb) (P := Pf) TBf rfl hmem huni (lamS2_by (N := ["_law_sky", "_law_far", "_law_works", "_law_indexes", "_law_work", "_law_index", "_law_plain"]) (sc := defScope s__law_refused) (by decide +kernel)) rfl) (pa_cons (pe_lam1 (T := Tb) (P := Pf) TBf rfl hmem huni (lamS2_by (N := ["_law_sky", "_law_far", "_law_works", "_law_indexes", "_law_work", "_law_index", "_law_plain"]) (sc := defScope s__law_refused) (by decide +kernel)) rfl rfl pe_int) (pa_cons (pe_lam1 (T := Tb) (P := Pf) TBf rfl hmem huni (lamS2_by (N := ["_law_sky", "_law_far", "_law_works", "_law_indexes", "_law_work", "_law_index", "_law_plain"]) (sc := defScope s__law_refused) (by decide +kernel)) rfl rfl pe_int) pa_nil)))))
      (pss_cons (ps_set (i := 2) sc__law_refused.nd rfl (Or.inl rfl) (pe_op op_cat (pv 2) (pe_lst (pa_cons (pe_lam1 (T := Tb) (P := Pf) TBf rfl hmem huni (lamS2_by (N := ["_law_sky", "_law_far", "_law_works", "_law_indexes", "_law_work", "_law_index", "_law_plain"]) (sc := defScope s__law_refused) (by decide +kernel)) rfl rfl pe_int) (pa_cons (pe_lam1 (T := Tb) (P := Pf) TBf rfl hmem huni (lamS2_by (N := ["_law_sky", "_law_far", "_law_works", "_law_indexes", "_law_work", "_law_index", "_law_plain"]) (sc := defScope s__law_refused) (by decide +kernel)) rfl rfl pe_int) pa_nil)))))
      (pss_cons (ps_expr (pe_bm PySem.F.plainAttrs_list PySem.F.slot_list_append PySem.F.type_list_append mt_append (pv 2) (pa_cons (pe_lam1 (T := Tb) (P := Pf) TBf rfl hmem huni (lamS2_by (N := ["_law_sky", "_law_far", "_law_works", "_law_indexes", "_law_work", "_law_index", "_law_plain"]) (sc := defScope s__law_refused) (by decide +kernel)) rfl rfl pe_int) pa_nil)))
      (pss_cons (ps_expr (pe_bm PySem.F.plainAttrs_list PySem.F.slot_list_append PySem.F.type_list_append mt_append (pv 2) (pa_cons (pe_lam1 (T := Tb) (P := Pf) TBf rfl hmem huni (lamS2_by (N := ["_law_sky", "_law_far", "_law_works", "_law_indexes", "_law_work", "_law_index", "_law_plain"]) (sc := defScope s__law_refused) (by decide +kernel)) rfl rfl pe_int) pa_nil)))
      (pss_cons (ps_expr (pe_bm PySem.F.plainAttrs_list PySem.F.slot_list_append PySem.F.type_list_append mt_append (pv 2) (pa_cons (pe_lam1 (T := Tb) (P := Pf) TBf rfl hmem huni (lamS2_by (N := ["_law_sky", "_law_far", "_law_works", "_law_indexes", "_law_work", "_law_index", "_law_plain"]) (sc := defScope s__law_refused) (by decide +kernel)) rfl rfl pe_int) pa_nil)))
      (pss_cons (ps_set (i := 2) sc__law_refused.nd rfl (Or.inl rfl) (pe_op op_cat (pv 2) (pe_lst (pa_cons (pe_lam1 (T := Tb) (P := Pf) TBf rfl hmem huni (lamS2_by (N := ["_law_sky", "_law_far", "_law_works", "_law_indexes", "_law_work", "_law_index", "_law_plain"]) (sc := defScope s__law_refused) (by decide +kernel)) rfl rfl pe_int) (pa_cons (pe_lam1 (T := Tb) (P := Pf) TBf rfl hmem huni (lamS2_by (N := ["_law_sky", "_law_far", "_law_works", "_law_indexes", "_law_work", "_law_index", "_law_plain"]) (sc := defScope s__law_refused) (by decide +kernel)) rfl rfl pe_int) pa_nil)))))
      (pss_cons (ps_expr (pe_bm PySem.F.plainAttrs_list PySem.F.slot_list_append PySem.F.type_list_append mt_append (pv 2) (pa_cons (pe_lam1 (T := Tb) (P := Pf) TBf rfl hmem huni (lamS2_by (N := ["_law_sky", "_law_far", "_law_works", "_law_indexes", "_law_work", "_law_index", "_law_plain"]) (sc := defScope s__law_refused) (by decide +kernel)) rfl rfl pe_int) pa_nil)))
      (pss_cons (ps_set (i := 3) sc__law_refused.nd rfl (Or.inl rfl) (pe_lst (pa_cons pe_int (pa_cons (pe_op op_sub pe_int pe_int) (pa_cons (pe_op op_sub pe_int pe_int) (pa_cons pe_int (pa_cons pe_int (pa_cons pe_int (pa_cons pe_int (pa_cons pe_int (pa_cons pe_int (pa_cons pe_int (pa_cons pe_int pa_nil)))))))))))))
      (pss_cons (ps_if (pt_cmpR (op_neD hr.units) (pe_lcI (own := [("_law_work", 4)]) (g := gName 4) rfl sc__law_refused.nd (pi_list (pv 2)) (blkOk_by (own := [("_law_work", 4)]) (N := ["_law_sky", "_law_far", "_law_works", "_law_indexes", "_law_work", "_law_index", "_law_plain"]) (sc := defScope s__law_refused) (by decide +kernel)) (fun _ _ _ _ _ => pg_name (i := 4) sc__law_refused.nd rfl (Or.inl rfl)) (fun _ _ _ _ _ => pts_nil) (fun _ _ _ _ _ _ _ I0 hf => pe_give2B (k := 8) I0 hf (give_outcome T ER) (by rfl) (hr.mono (by decide)) (by decide) (pa_cons (pv 4) pa_nil))) (pe_lc (own := [("_law_index", 5)]) (g := gName 5) rfl sc__law_refused.nd (pi_list (pv 3)) (blkOk_by (own := [("_law_index", 5)]) (N := ["_law_sky", "_law_far", "_law_works", "_law_indexes", "_law_work", "_law_index", "_law_plain"]) (sc := (defScope s__law_refused)) (by decide +kernel)) (fun _ _ _ _ _ => pg_name (i := 5) sc__law_refused.nd rfl (Or.inl rfl)) (fun _ _ _ _ _ => pts_nil) (fun _ _ _ _ _ => (pe_tup (pa_cons pe_str (pa_cons (pv 5) pa_nil))))) (nomark _)) (pss_one (ps_ret pe_bl)) pss_nil)
      (pss_cons (ps_set (i := 6) sc__law_refused.nd rfl (Or.inr rfl) (pe_make T.mk_Setting G_Setting_init (hr.mono (by decide)) (by rfl) T.mg_Setting (b_Setting_init T) .nil pass0 (pa_cons pe_int (pa_cons pe_int pa_nil))))
      (pss_cons (ps_set (i := 2) sc__law_refused.nd rfl (Or.inl rfl) (pe_lst (pa_cons (pe_lam0 (T := Tb) (P := Pf) TBf rfl hmem huni (lamS2_by (N := ["_law_sky", "_law_far", "_law_works", "_law_indexes", "_law_work", "_law_index", "_law_plain"]) (sc := defScope s__law_refused) (by decide +kernel)) rfl) (pa_cons (pe_lam1 (T := Tb) (P := Pf) TBf rfl hmem huni (lamS2_by (N := ["_law_sky", "_law_far", "_law_works", "_law_indexes", "_law_work", "_law_index", "_law_plain"]) (sc := defScope s__law_refused) (by decide +kernel)) rfl rfl pe_int) pa_nil))))
      (pss_cons (ps_set (i := 2) sc__law_refused.nd rfl (Or.inl rfl) (pe_op op_cat (pv 2) (pe_lst (pa_cons (pe_lam1 (T := Tb) (P := Pf) TBf rfl hmem huni (lamS2_by (N := ["_law_sky", "_law_far", "_law_works", "_law_indexes", "_law_work", "_law_index", "_law_plain"]) (sc := defScope s__law_refused) (by decide +kernel)) rfl rfl pe_int) (pa_cons (pe_lam1 (T := Tb) (P := Pf) TBf rfl hmem huni (lamS2_by (N := ["_law_sky", "_law_far", "_law_works", "_law_indexes", "_law_work", "_law_index", "_law_plain"]) (sc := defScope s__law_refused) (by decide +kernel)) rfl rfl pe_int) pa_nil)))))
      (pss_cons (ps_expr (pe_bm PySem.F.plainAttrs_list PySem.F.slot_list_append PySem.F.type_list_append mt_append (pv 2) (pa_cons (pe_lam1 (T := Tb) (P := Pf) TBf rfl hmem huni (lamS2_by (N := ["_law_sky", "_law_far", "_law_works", "_law_indexes", "_law_work", "_law_index", "_law_plain"]) (sc := defScope s__law_refused) (by decide +kernel)) rfl rfl pe_int) pa_nil)))
      (pss_one (ps_ret (pe_cmpR (op_eqD hr.units) (pe_lcI (own := [("_law_work", 4)]) (g := gName 4) rfl sc__law_refused.nd (pi_list (pv 2)) (blkOk_by (own := [("_law_work", 4)]) (N := ["_law_sky", "_law_far", "_law_works", "_law_indexes", "_law_work", "_law_index", "_law_plain"]) (sc := defScope s__law_refused) (by decide +kernel)) (fun _ _ _ _ _ => pg_name (i := 4) sc__law_refused.nd rfl (Or.inl rfl)) (fun _ _ _ _ _ => pts_nil) (fun _ _ _ _ _ _ _ I0 hf => pe_give2B (k := 8) I0 hf (give_outcome T ER) (by rfl) (hr.mono (by decide)) (by decide) (pa_cons (pv 4) pa_nil))) (pe_op op_rep (pe_lst (pa_cons (pe_tup (pa_cons pe_str pa_nil)) pa_nil)) pe_int) (nomark _)))))))))))))))))), ?_⟩
    refine seq_unf ?_
    refine ⟨_, _, rfl, rfl, ⟨by decide, by decide, by decide⟩, ?_⟩
    show gName 1 (.int ((10 : Int) ^ (12 : Int).toNat)) _ _ _
    rw [pow12]
    refine g_unf ?_
    refine ws_three hT fun W1 H1 f0 f1 f2 ws => ?_
    refine g_unf ?_
    refine ws_cat2 ws rfl (by show 3 ≤ 1000; decide) fun W2 H2 f3 f4 ws => ?_
    refine g_seq ?_
    refine ws_append ws rfl (by show 5 ≤ 1000; decide) fun H3 f5 ws => ?_
    refine ws_appendS ws rfl (by show 6 ≤ 1000; decide) fun H4 f6 ws => ?_
    refine ws_appendS ws rfl (by show 7 ≤ 1000; decide) fun H5 f7 ws => ?_
    refine seq_unf ?_
    refine ws_cat2 ws rfl (by show 8 ≤ 1000; decide) fun W6 H6 f8 f9 ws => ?_
    refine g_seq ?_
    refine ws_append ws rfl (by show 10 ≤ 1000; decide) fun H7 f10 ws => ?_
    dsimp only
    refine seq_unf ?_
    refine ⟨_, _, rfl, rfl, _, _, rfl, rfl, by show 11 ≤ sizeLine; decide, fun D nD => ?_⟩
    have sD := same_upd (o := .lst (([0, 0 - 1, 0 - 1, 0, 0, 1, 2, 0, 1, 1, 0] : List Int).map V.int)) nD
    replace ws := ws.same (ms := []) sD
    have hD : (upd H7 D (.lst (([0, 0 - 1, 0 - 1, 0, 0, 1, 2, 0, 1, 1, 0] : List Int).map V.int))) D = some (.lst (([0, 0 - 1, 0 - 1, 0, 0, 1, 2, 0, 1, 1, 0] : List Int).map V.int)) := upd_same
    show gName 3 (.ref D) _ (upd H7 D (.lst (([0, 0 - 1, 0 - 1, 0, 0, 1, 2, 0, 1, 1, 0] : List Int).map V.int))) _
    generalize upd H7 D (.lst (([0, 0 - 1, 0 - 1, 0, 0, 1, 2, 0, 1, 1, 0] : List Int).map V.int)) = H8 at ws hD ⊢
    clear sD nD
    dsimp only [List.append_eq, List.cons_append, List.nil_append] at ws
    refine g_seq ?_
    refine if_op ?_
    show tLc _ _ _ _ _ [some (.ref z), some (.int 1000000000000), some (.ref W6), some (.ref D), none, none, none] H8 _
    refine lc_works (i := 4) (j := 2) (fs := [f0, f1, f2, f3, f4, f5, f6, f7, f8, f9, f10]) (rs := ([0, 0 - 1, 0 - 1, 0, 0, 1, 2, 0, 1, 1, 0] : List Int).map fun n => [.str "InvalidSetting", .int n]) rfl ?hj ?hi (SqL.of ws.at_) rfl (by show 11 ≤ 1000; decide) (fun m f r hf hr' => ?_) (fun D2 H9 s9 dl => ?_)
    case hj => rfl
    case hi => show 4 < 7; decide
    · match m, hf, hr' with
      | 0, hf, hr' =>
        cases hf; cases hr'
        refine workI (List.mem_cons_of_mem _ (List.mem_singleton.mpr rfl)) (ws.get 0 rfl) ⟨lamS2_by (N := ["_law_sky", "_law_far", "_law_works", "_law_indexes", "_law_work", "_law_index", "_law_plain"]) (sc := defScope s__law_refused) (by decide +kernel), lamB0 (fun _ _ _ _ _ _ => rfl), fun A outer s H E f c' hr => (pe_make T.mk_Setting Gx_Setting_init (hr.mono (by decide)) (by rfl) T.mg_Setting (b_Setting_init T) .nil (passes_call (takes_of rfl rfl rfl rfl) (fun _ _ _ _ h => h)) (pa_cons pe_int (pa_cons pe_int pa_nil)))⟩ (fun H' E Q s go => ?_)
        exact fun s ds ns nds _ => setting_inX T ns nds (by decide) go
      | 1, hf, hr' =>
        cases hf; cases hr'
        refine workI (List.mem_cons_of_mem _ (List.mem_singleton.mpr rfl)) (ws.get 1 rfl) ⟨lamS2_by (N := ["_law_sky", "_law_far", "_law_works", "_law_indexes", "_law_work", "_law_index", "_law_plain"]) (sc := defScope s__law_refused) (by decide +kernel), lamB1 (a := "_law_a") (by decide +kernel) (fun _ _ _ _ _ _ _ _ => ⟨_, rfl, rfl⟩), fun A outer s H E f c' hr => (pe_makeR T.mk_HourSetting Gx_HourSetting_init (hr.mono (by decide)) (by rfl) T.mg_HourSetting (passes_call (takes_of rfl rfl rfl rfl) (fun _ _ _ _ h => h)) (pa_cons pe_int (pa_cons (pe_tup (pa_cons pe_int (pa_cons pe_int (pa_cons pe_int pa_nil)))) pa_nil)))⟩ (fun H' E Q s go => ?_)
        exact ⟨by show 3 ≤ sizeLine; decide, fun q nq x0 dx nx nd ne => hours_inX (qs := [q]) (ps := [(0, 1, 2)]) (parts_cons upd_same parts_nil) (by decide) nx nd (.inl ⟨by decide, rfl⟩) fun d H'' s2 hd => go d H'' ((same_upd nq).trans s2) hd⟩
      | 2, hf, hr' =>
        cases hf; cases hr'
        refine workI (List.mem_cons_of_mem _ (List.mem_singleton.mpr rfl)) (ws.get 2 rfl) ⟨lamS2_by (N := ["_law_sky", "_law_far", "_law_works", "_law_indexes", "_law_work", "_law_index", "_law_plain"]) (sc := defScope s__law_refused) (by decide +kernel), lamB1 (a := "_law_b") (by decide +kernel) (fun _ _ _ _ _ _ _ _ => ⟨_, rfl, rfl⟩), fun A outer s H E f c' hr => (pe_makeR T.mk_HourSetting Gx_HourSetting_init (hr.mono (by decide)) (by rfl) T.mg_HourSetting (passes_call (takes_of rfl rfl rfl rfl) (fun _ _ _ _ h => h)) (pa_cons pe_int pa_nil))⟩ (fun H' E Q s go => ?_)
        exact fun x0 dx nx nd ne => hours_inX (qs := []) (ps := []) parts_nil (by decide) nx nd (.inl ⟨by decide, rfl⟩) go
      | 3, hf, hr' =>
        cases hf; cases hr'
        refine workI (List.mem_cons_of_mem _ (List.mem_singleton.mpr rfl)) (ws.get 3 rfl) ⟨lamS2_by (N := ["_law_sky", "_law_far", "_law_works", "_law_indexes", "_law_work", "_law_index", "_law_plain"]) (sc := defScope s__law_refused) (by decide +kernel), lamB1 (a := "_law_c") (by decide +kernel) (fun _ _ _ _ _ _ _ _ => ⟨_, rfl, rfl⟩), fun A outer s H E f c' hr => (pe_makeR T.mk_HourSetting Gx_HourSetting_init (hr.mono (by decide)) (by rfl) T.mg_HourSetting (passes_call (takes_of rfl rfl rfl rfl) (fun _ _ _ _ h => h)) (pa_cons pe_int pa_nil))⟩ (fun H' E Q s go => ?_)
        exact fun x0 dx nx nd ne => hours_inX (qs := []) (ps := []) parts_nil (by decide) nx nd (.inr ⟨by decide, 0, by decide, rfl⟩) go
      | 4, hf, hr' =>
        cases hf; cases hr'
        refine workI (List.mem_cons_of_mem _ (List.mem_singleton.mpr rfl)) (ws.get 4 rfl) ⟨lamS2_by (N := ["_law_sky", "_law_far", "_law_works", "_law_indexes", "_law_work", "_law_index", "_law_plain"]) (sc := defScope s__law_refused) (by decide +kernel), lamB1 (a := "_law_e") (by decide +kernel) (fun _ _ _ _ _ _ _ _ => ⟨_, rfl, rfl⟩), fun A outer s H E f c' hr => (pe_makeR T.mk_HourSetting Gx_HourSetting_init (hr.mono (by decide)) (by rfl) T.mg_HourSetting (passes_call (takes_of rfl rfl rfl rfl) (fun _ _ _ _ h => h)) (pa_cons pe_int (pa_cons (pe_tup (pa_cons pe_int (pa_cons pe_int (pa_cons pe_int pa_nil)))) pa_nil)))⟩ (fun H' E Q s go => ?_)
        exact ⟨by show 3 ≤ sizeLine; decide, fun q nq x0 dx nx nd ne => hours_inX (qs := [q]) (ps := [(1, 1, 2)]) (parts_cons upd_same parts_nil) (by decide) nx nd (.inr ⟨by decide, 0, by decide, rfl⟩) fun d H'' s2 hd => go d H'' ((same_upd nq).trans s2) hd⟩
      | 5, hf, hr' =>
        cases hf; cases hr'
        refine workI (List.mem_cons_of_mem _ (List.mem_singleton.mpr rfl)) (ws.get 5 rfl) ⟨lamS2_by (N := ["_law_sky", "_law_far", "_law_works", "_law_indexes", "_law_work", "_law_index", "_law_plain"]) (sc := defScope s__law_refused) (by decide +kernel), lamB1 (a := "_law_f") (by decide +kernel) (fun _ _ _ _ _ _ _ _ => ⟨_, rfl, rfl⟩), fun A outer s H E f c' hr => (pe_makeR T.mk_HourSetting Gx_HourSetting_init (hr.mono (by decide)) (by rfl) T.mg_HourSetting (passes_call (takes_of rfl rfl rfl rfl) (fun _ _ _ _ h => h)) (pa_cons pe_int (pa_cons (pe_tup (pa_cons pe_int (pa_cons pe_int (pa_cons pe_int pa_nil)))) (pa_cons (pe_tup (pa_cons pe_int (pa_cons pe_int (pa_cons pe_int pa_nil)))) pa_nil))))⟩ (fun H' E Q s go => ?_)
        exact ⟨by show 3 ≤ sizeLine; decide, fun q nq => ⟨by show 3 ≤ sizeLine; decide, fun q2 nq2 x0 dx nx nd ne => hours_inX (qs := [q, q2]) (ps := [(0, 1, 2), (5, 1, 2)]) (parts_cons (same_upd nq2 _ _ upd_same) (parts_cons upd_same parts_nil)) (by decide) nx nd (.inr ⟨by decide, 1, by decide, rfl⟩) fun d H'' s2 hd => go d H'' (((same_upd nq).trans (same_upd nq2)).trans s2) hd⟩⟩
      | 6, hf, hr' =>
        cases hf; cases hr'
        refine workI (List.mem_cons_of_mem _ (List.mem_singleton.mpr rfl)) (ws.get 6 rfl) ⟨lamS2_by (N := ["_law_sky", "_law_far", "_law_works", "_law_indexes", "_law_work", "_law_index", "_law_plain"]) (sc := defScope s__law_refused) (by decide +kernel), lamB1 (a := "_law_g") (by decide +kernel) (fun _ _ _ _ _ _ _ _ => ⟨_, rfl, rfl⟩), fun A outer s H E f c' hr => (pe_makeR T.mk_HourSetting Gx_HourSetting_init (hr.mono (by decide)) (by rfl) T.mg_HourSetting (passes_call (takes_of rfl rfl rfl rfl) (fun _ _ _ _ h => h)) (pa_cons pe_int (pa_cons (pe_tup (pa_cons pe_int (pa_cons pe_int (pa_cons pe_int pa_nil)))) (pa_cons (pe_tup (pa_cons pe_int (pa_cons pe_int (pa_cons pe_int pa_nil)))) (pa_cons (pe_tup (pa_cons pe_int (pa_cons pe_int (pa_cons pe_int pa_nil)))) pa_nil)))))⟩ (fun H' E Q s go => ?_)
        exact ⟨by show 3 ≤ sizeLine; decide, fun q nq => ⟨by show 3 ≤ sizeLine; decide, fun q2 nq2 => ⟨by show 3 ≤ sizeLine; decide, fun q3 nq3 x0 dx nx nd ne => hours_inX (qs := [q, q2, q3]) (ps := [(0, 1, 2), (3, 1, 2), (3, 1, 2)]) (parts_cons (same_upd nq3 _ _ (same_upd nq2 _ _ upd_same)) (parts_cons (same_upd nq3 _ _ upd_same) (parts_cons upd_same parts_nil))) (by decide) nx nd (.inr ⟨by decide, 2, by decide, rfl⟩) fun d H'' s2 hd => go d H'' ((((same_upd nq).trans (same_upd nq2)).trans (same_upd nq3)).trans s2) hd⟩⟩⟩
      | 7, hf, hr' =>
        cases hf; cases hr'
        refine workI (List.mem_cons_of_mem _ (List.mem_singleton.mpr rfl)) (ws.get 7 rfl) ⟨lamS2_by (N := ["_law_sky", "_law_far", "_law_works", "_law_indexes", "_law_work", "_law_index", "_law_plain"]) (sc := defScope s__law_refused) (by decide +kernel), lamB1 (a := "_law_h") (by decide +kernel) (fun _ _ _ _ _ _ _ _ => ⟨_, rfl, rfl⟩), fun A outer s H E f c' hr => (pe_makeK T.mk_RestSetting Gx_RestSetting_init (hr.mono (by decide)) (by rfl) T.mg_RestSetting kbr (passes_call (takes_of rfl rfl rfl rfl) (fun _ _ _ _ h => h)) (pa_cons pe_int (pa_cons pe_int pa_nil)) (pk_cons (pe_op op_sub pe_int pe_int) pk_nil))⟩ (fun H' E Q s go => ?_)
        exact ⟨_, _, rfl, rfl, rfl, rfl, fun s ds ns nds _ => rest_inX (lo := 1) (hi := 0) (r := 0 - 1) ns nds (.inl ⟨by decide, rfl⟩) go⟩
      | 8, hf, hr' =>
        cases hf; cases hr'
        refine workI (List.mem_cons_of_mem _ (List.mem_singleton.mpr rfl)) (ws.get 8 rfl) ⟨lamS2_by (N := ["_law_sky", "_law_far", "_law_works", "_law_indexes", "_law_work", "_law_index", "_law_plain"]) (sc := defScope s__law_refused) (by decide +kernel), lamB1 (a := "_law_i") (by decide +kernel) (fun _ _ _ _ _ _ _ _ => ⟨_, rfl, rfl⟩), fun A outer s H E f c' hr => (pe_makeK T.mk_RestSetting Gx_RestSetting_init (hr.mono (by decide)) (by rfl) T.mg_RestSetting kbr (passes_call (takes_of rfl rfl rfl rfl) (fun _ _ _ _ h => h)) (pa_cons pe_int (pa_cons pe_int pa_nil)) (pk_cons (pe_op op_sub pe_int pe_int) pk_nil))⟩ (fun H' E Q s go => ?_)
        exact ⟨_, _, rfl, rfl, rfl, rfl, fun s ds ns nds _ => rest_inX (lo := 1) (hi := 2) (r := 0 - 1) ns nds (.inr ⟨by decide, by decide, rfl⟩) go⟩
      | 9, hf, hr' =>
        cases hf; cases hr'
        refine workI (List.mem_cons_of_mem _ (List.mem_singleton.mpr rfl)) (ws.get 9 rfl) ⟨lamS2_by (N := ["_law_sky", "_law_far", "_law_works", "_law_indexes", "_law_work", "_law_index", "_law_plain"]) (sc := defScope s__law_refused) (by decide +kernel), lamB1 (a := "_law_j") (by decide +kernel) (fun _ _ _ _ _ _ _ _ => ⟨_, rfl, rfl⟩), fun A outer s H E f c' hr => (pe_makeK T.mk_RestSetting Gx_RestSetting_init (hr.mono (by decide)) (by rfl) T.mg_RestSetting kbr (passes_call (takes_of rfl rfl rfl rfl) (fun _ _ _ _ h => h)) (pa_cons pe_int (pa_cons pe_int pa_nil)) (pk_cons pe_int pk_nil))⟩ (fun H' E Q s go => ?_)
        exact ⟨rfl, rfl, fun s ds ns nds _ => rest_inX (lo := 1) (hi := 2) (r := 1001) ns nds (.inr ⟨by decide, by decide, rfl⟩) go⟩
      | 10, hf, hr' =>
        cases hf; cases hr'
        refine workI (List.mem_cons_of_mem _ (List.mem_singleton.mpr rfl)) (ws.get 10 rfl) ⟨lamS2_by (N := ["_law_sky", "_law_far", "_law_works", "_law_indexes", "_law_work", "_law_index", "_law_plain"]) (sc := defScope s__law_refused) (by decide +kernel), lamB1 (a := "_law_k") (by decide +kernel) (fun _ _ _ _ _ _ _ _ => ⟨_, rfl, rfl⟩), fun A outer s H E f c' hr => (pe_make T.mk_Setting Gx_Setting_init (hr.mono (by decide)) (by rfl) T.mg_Setting (b_Setting_init T) .nil (passes_call (takes_of rfl rfl rfl rfl) (fun _ _ _ _ h => h)) (pa_cons (pe_op op_sub (pe_op op_sub pe_int (pv 1)) pe_int) (pa_cons pe_int pa_nil)))⟩ (fun H' E Q s go => ?_)
        exact ⟨_, rfl, _, _, rfl, rfl, _, _, rfl, rfl, fun s ds ns nds _ => setting_inX T ns nds (by decide) go⟩
    · refine lc_pairs (i := 5) (j := 3) (ns := [0, 0 - 1, 0 - 1, 0, 0, 1, 2, 0, 1, 1, 0]) ?hj3 ?hi3 (SqL.of (s9 _ _ hD)) (by show 11 ≤ 1000; decide) (fun D3 H10 s10 dl2 => ?_)
      case hj3 => rfl
      case hi3 => show 5 < 7; decide
      refine neD_DL (dl.same s10) dl2 (by decide +kernel) (by decide +kernel) (by decide +kernel) (by decide +kernel) ⟨_, rfl, ifF (by decide +kernel) ?_⟩
      have t10 := (ws.tab.ext s9).ext s10
      clear dl dl2 ws
      refine tnext ?_
      dsimp only
      refine seq_unf ?_
      refine fun s ds ns nds _ => setting_made T (by decide) ns nds fun H11 s11 sa => ⟨rfl, ?_⟩
      replace t10 := t10.ext s11
      clear sa
      refine g_unf ?_
      refine ws_two t10 fun W H12 g0 g1 ws => ?_
      refine g_unf ?_
      refine ws_cat2 ws rfl (by show 2 ≤ 1000; decide) fun W' H13 g2 g3 ws => ?_
      refine g_seq ?_
      refine ws_append ws rfl (by show 4 ≤ 1000; decide) fun H14 g4 ws => ?_
      dsimp only [List.append_eq, List.cons_append, List.nil_append] at ws
      dsimp only
      refine ret_op ?_
      dsimp only
      show tLc _ _ _ _ _ [some (.ref z), some (.int 1000000000000), some (.ref W'), some (.ref D), none, none, some (.ref s)] H14 _
      refine lc_works (i := 4) (j := 2) (fs := [g0, g1, g2, g3, g4]) (rs := List.replicate 5 [.str "InvalidNumber"]) rfl ?hj4 ?hi4 (SqL.of ws.at_) rfl (by show 5 ≤ 1000; decide) (fun m f r hf hr' => ?_) (fun D3 H15 s15 dl => ?_)
      case hj4 => rfl
      case hi4 => show 4 < 7; decide
      · obtain rfl : r = [.str "InvalidNumber"] := (List.mem_replicate.mp (List.mem_of_getElem? hr')).2
        match m, hf with
        | 0, hf =>
          cases hf
          refine workP (List.mem_cons_self ..) (ws.get 0 rfl) ⟨lamS2_by (N := ["_law_sky", "_law_far", "_law_works", "_law_indexes", "_law_work", "_law_index", "_law_plain"]) (sc := defScope s__law_refused) (by decide +kernel), lamB0 (fun _ _ _ _ _ _ => rfl), fun A outer s H E f c' hr => (pe_call Gx_totals (hr.mono (by decide)) (by rfl) T.mg_totals T.F_totals.kp (b_totals T) .nil (passes_call (takes_of rfl rfl rfl rfl) (fun _ _ _ _ h => h)) (pa_cons (pv 0) (pa_cons pe_int (pa_cons (pv 6) (pa_cons pe_int (pa_cons pe_int pa_nil))))))⟩ (fun H' E Q s go => ?_)
          exact ⟨_, rfl, _, rfl, _, _, _, _, _, rfl, .inl (by decide), fun H2 s2 => go H2 s2⟩
        | 1, hf =>
          cases hf
          refine workP (List.mem_cons_self ..) (ws.get 1 rfl) ⟨lamS2_by (N := ["_law_sky", "_law_far", "_law_works", "_law_indexes", "_law_work", "_law_index", "_law_plain"]) (sc := defScope s__law_refused) (by decide +kernel), lamB1 (a := "_law_a") (by decide +kernel) (fun _ _ _ _ _ _ _ _ => ⟨_, rfl, rfl⟩), fun A outer s H E f c' hr => (pe_call Gx_totals (hr.mono (by decide)) (by rfl) T.mg_totals T.F_totals.kp (b_totals T) .nil (passes_call (takes_of rfl rfl rfl rfl) (fun _ _ _ _ h => h)) (pa_cons (pv 0) (pa_cons pe_int (pa_cons (pv 6) (pa_cons pe_int (pa_cons pe_int pa_nil))))))⟩ (fun H' E Q s go => ?_)
          exact ⟨_, rfl, _, rfl, _, _, _, _, _, rfl, .inl (by decide), fun H2 s2 => go H2 s2⟩
        | 2, hf =>
          cases hf
          refine workP (List.mem_cons_self ..) (ws.get 2 rfl) ⟨lamS2_by (N := ["_law_sky", "_law_far", "_law_works", "_law_indexes", "_law_work", "_law_index", "_law_plain"]) (sc := defScope s__law_refused) (by decide +kernel), lamB1 (a := "_law_b") (by decide +kernel) (fun _ _ _ _ _ _ _ _ => ⟨_, rfl, rfl⟩), fun A outer s H E f c' hr => (pe_call Gx_totals (hr.mono (by decide)) (by rfl) T.mg_totals T.F_totals.kp (b_totals T) .nil (passes_call (takes_of rfl rfl rfl rfl) (fun _ _ _ _ h => h)) (pa_cons (pv 0) (pa_cons pe_int (pa_cons (pv 6) (pa_cons (pe_op op_add (pv 1) pe_int) (pa_cons pe_int pa_nil))))))⟩ (fun H' E Q s go => ?_)
          exact ⟨_, rfl, _, rfl, _, rfl, _, _, rfl, rfl, _, _, _, _, _, rfl, .inr (.inl (by decide)), fun H2 s2 => go H2 s2⟩
        | 3, hf =>
          cases hf
          refine workP (List.mem_cons_self ..) (ws.get 3 rfl) ⟨lamS2_by (N := ["_law_sky", "_law_far", "_law_works", "_law_indexes", "_law_work", "_law_index", "_law_plain"]) (sc := defScope s__law_refused) (by decide +kernel), lamB1 (a := "_law_c") (by decide +kernel) (fun _ _ _ _ _ _ _ _ => ⟨_, rfl, rfl⟩), fun A outer s H E f c' hr => (pe_listG (E := onE er.n E) (pgen_ofY (pgen_callY (E := onE er.n E) Gx_watch (hr.mono (by decide)) (by rfl) T.mg_watch T.F_watch.kp (b_watch T) .nil (pa_cons (pv 0) (pa_cons pe_int (pa_cons (pv 6) (pa_cons pe_int (pa_cons pe_int pa_nil))))))) (passes_call (takes_of rfl rfl rfl rfl) (fun _ _ _ _ h => h.2)) (onE_ns NS) (hr.mono (by decide)) (by rfl) T.z_list (by decide +kernel))⟩ (fun H' E Q s go => ?_)
          exact ⟨_, rfl, _, rfl, fun _ _ => False, fun _ _ => False, ⟨_, _, _, _, _, rfl, .inr (.inr (by decide)), ⟨fun _ _ z => z, fun _ _ z => z⟩, ⟨rfl, rfl⟩, go _ (Same.refl _)⟩, ⟨fun _ _ z => z, fun _ _ z => z⟩⟩
        | 4, hf =>
          cases hf
          refine workP (List.mem_cons_self ..) (ws.get 4 rfl) ⟨lamS2_by (N := ["_law_sky", "_law_far", "_law_works", "_law_indexes", "_law_work", "_law_index", "_law_plain"]) (sc := defScope s__law_refused) (by decide +kernel), lamB1 (a := "_law_e") (by decide +kernel) (fun _ _ _ _ _ _ _ _ => ⟨_, rfl, rfl⟩), fun A outer s H E f c' hr => (pe_listG (E := onE er.n E) (pgen_ofY (pgen_callY (E := onE er.n E) Gx_watch (hr.mono (by decide)) (by rfl) T.mg_watch T.F_watch.kp (b_watch T) .nil (pa_cons (pv 0) (pa_cons pe_int (pa_cons (pv 6) (pa_cons pe_int (pa_cons (pe_op op_sub pe_int pe_int) pa_nil))))))) (passes_call (takes_of rfl rfl rfl rfl) (fun _ _ _ _ h => h.2)) (onE_ns NS) (hr.mono (by decide)) (by rfl) T.z_list (by decide +kernel))⟩ (fun H' E Q s go => ?_)
          exact ⟨_, rfl, _, rfl, _, _, rfl, rfl, fun _ _ => False, fun _ _ => False, ⟨_, _, _, _, _, rfl, .inr (.inr (by decide)), ⟨fun _ _ z => z, fun _ _ z => z⟩, ⟨rfl, rfl⟩, go _ (Same.refl _)⟩, ⟨fun _ _ z => z, fun _ _ z => z⟩⟩
      · refine ⟨by show 1 ≤ sizeLine; decide, fun q m1 => ⟨by show 1 ≤ sizeLine; decide, fun q1 m2 => ⟨q1, 5, [.ref q], rfl, rfl, upd_same, by decide, by decide, by show 1 * 5 ≤ sizeLine; decide, fun q2 m3 => ?_⟩⟩⟩
        have v1 := same_upd (o := .tup [.str "InvalidNumber"]) m1
        have v2 := same_upd (o := .lst [.ref q]) m2
        have v3 := same_upd (o := .lst (List.replicate (5 : Int).toNat [V.ref q]).flatten) m3
        have dlr := dl_rep (n := 5) (v3 _ _ (v2 _ _ upd_same)) (show _ = some (HO.lst (List.replicate 5 (V.ref q))) from upd_same)
        have vv := (v1.trans v2).trans v3
        refine (?_ : rEqD _ _ _ _ _)
        refine eqD_DL (dl.same vv) dlr rfl rfl (by decide +kernel) (by decide +kernel) ?_
        rw [show PyData.eqv (pdL (List.replicate 5 [.str "InvalidNumber"])) (pdL (List.replicate 5 [.str "InvalidNumber"])) = true by decide +kernel]
        exact k _
end
end W6

set_option maxHeartbeats 1000000
namespace W6
open PySem PySem.Spec PyProof.Rows L2 Ru StX LamX
/-- the parts of a day, as they are drawn -/
structure POk (L : Nat) (ps : List (Int × Int × Int)) : Prop where
  l1 : 1 ≤ L
  l24 : L ≤ 24
  fn : fip L ps = none
  n1 : 1 ≤ ps.length
  n4 : ps.length ≤ 4
  th : ∀ p ∈ ps, thrOk p.2.1 p.2.2 = true
theorem fipGo_none {L : Int} : ∀ (ps : List (Int × Int × Int)) (i : Nat) (b : Int), (ps.map (·.1)).Pairwise (· < ·) → (∀ p ∈ ps, b < p.1 ∧ p.1 < L ∧ thrOk p.2.1 p.2.2 = true) → (i = 0 → ∀ p r, ps = p :: r → p.1 = 0) → fipGo L i b ps = none
  | [], _, _, _, _, _ => rfl
  | p :: r, i, b, pw, h, z => by
    obtain ⟨h1, h2, h3⟩ := h p (List.mem_cons_self ..)
    rw [List.map_cons, List.pairwise_cons] at pw
    unfold fipGo
    rw [if_neg (fun q => q.2 (z q.1 p r rfl)), if_neg (fun q => q.elim (fun y => y ⟨h1, h2⟩) (fun y => by rw [h3] at y; cases y))]
    exact fipGo_none r (i + 1) p.1 pw.2 (fun q hq => ⟨pw.1 q.1 (List.mem_map_of_mem hq), (h q (List.mem_cons_of_mem _ hq)).2⟩) (fun e => by omega)
theorem PartsAt.kp {K : PySem.W.Frag} {H H' : Hp} {x y : Addr} {qs : List Addr} {ps : List (Int × Int × Int)} (h : PartsAt H qs ps) (ls : LS K H x y) (k : Kp x H H') : PartsAt H' qs ps := ⟨h.1, fun i q p a b => k.get ls (h.2 i q p a b) (fun _ z => nomatch z)⟩
theorem parts_snoc {H : Hp} {q : Addr} {p : Int × Int × Int} {qs : List Addr} {ps : List (Int × Int × Int)} (r : PartsAt H qs ps) (h : H q = some (.tup [.int p.1, .int p.2.1, .int p.2.2])) : PartsAt H (qs ++ [q]) (ps ++ [p]) := ⟨by rw [List.length_append, List.length_append, r.1]; rfl, fun i x y e1 e2 => by
  rcases Nat.lt_or_ge i qs.length with l | g
  · rw [List.getElem?_append_left l] at e1
    rw [List.getElem?_append_left (by rw [← r.1]; exact l)] at e2
    exact r.2 i x y e1 e2
  · have ei : i = qs.length := by
      have := (List.getElem?_eq_some_iff.mp e1).1
      rw [List.length_append, List.length_singleton] at this
      omega
    subst ei
    rw [List.getElem?_append_right (Nat.le_refl _), Nat.sub_self] at e1
    rw [List.getElem?_append_right (by rw [r.1]; exact Nat.le_refl _), r.1, Nat.sub_self] at e2
    cases e1
    cases e2
    exact h⟩
inductive Kd where
  | plain
  | hours
  | rest
def Kd.str : Kd → Str
  | .plain => "plain"
  | .hours => "hours"
  | .rest => "rest"
def lo0 (ps : List (Int × Int × Int)) : Int := (ps.headD (0, 0, 0)).2.1
def hi0 (ps : List (Int × Int × Int)) : Int := (ps.headD (0, 0, 0)).2.2
def Kd.S (L : Nat) (ps : List (Int × Int × Int)) (r : Int) : Kd → Th.Sg
  | .plain => Th.plainS (lo0 ps) (hi0 ps)
  | .hours => Th.hourS L ps
  | .rest => Th.restS (lo0 ps) (hi0 ps) r
def KAt (a : Ad) (H : Hp) (z : Addr) (L : Nat) (ps : List (Int × Int × Int)) (r : Int) : Kd → Prop
  | .plain => SetAt a H z (lo0 ps) (hi0 ps)
  | .hours => HourAt a H z L ps
  | .rest => RestAt a H z (lo0 ps) (hi0 ps) r
theorem KAt.same {a : Ad} {H H' : Hp} {z : Addr} {L : Nat} {ps : List (Int × Int × Int)} {r : Int} : ∀ {kd : Kd}, KAt a H z L ps r kd → Same H H' → KAt a H' z L ps r kd
  | .plain, ⟨dx, h⟩, s => ⟨dx, s _ _ h⟩
  | .hours, h, s => HourAt.same h s
  | .rest, ⟨dx, h⟩, s => ⟨dx, s _ _ h⟩
theorem hw3 {b l h : V} : ¬ (HT.sIx [b, l, h].length 0 (some 1) = 0 ∧ HT.sIx [b, l, h].length [b, l, h].length none = [b, l, h].length) := fun z => absurd z.1 (by show ¬ HT.sIx 3 0 (some 1) = 0; decide)
theorem cut3 {b l h : V} : cutV [b, l, h] (some 1) none = [l, h] := rfl
def spSetg (K : PySem.W.Frag) (a : Ad) : Sp := fun vs H Q _ => ∃ (U : Addr) (qs : List Addr) (ps : List (Int × Int × Int)) (L : Nat) (r : Int) (kd : Kd), vs = [.str kd.str, .int (L : Nat), .ref U, .int r] ∧ H U = some (.lst (qs.map V.ref)) ∧ PartsAt H qs ps ∧ POk L ps ∧ 0 ≤ r ∧ r ≤ 1000 ∧ ∀ z H', Same H H' → KAt a H' z L ps r kd → Q (.ref z) H'
def spParts (K : PySem.W.Frag) : Sp := fun vs H Q _ => ∃ (x y : Addr), vs = [.ref x] ∧ LS K H x y ∧ ∀ p U qs ps L H', POk L ps → H' p = some (.tup [.int (L : Nat), .ref U]) → H' U = some (.lst (qs.map V.ref)) → PartsAt H' qs ps → U ≠ x → LS K H' x y → Kp x H H' → Q (.ref p) H'
section
variable {P : Program} {w : World} {K : PySem.W.Frag} {mg : Str → Option Value} {base : Heap} {a : Ad} {er : Er2}
theorem ok__law_parts (T : Txt K mg a) : FnOk P w K mg base CX0 2 a.f__law_parts a.d__law_parts ["_law_state"] (spParts K) := by
  have G__law_drawn : FnOk P w K mg base CX0 1 a.f__law_drawn a.d__law_drawn ["_law_state", "_law_count"] (spDrawn K) := ok__law_drawn T
  refine T.F__law_parts.ok sc__law_parts (fun vs H Q E h => ?_) (fun cdv A outer s H vs Q E hr h => ?_)
  · obtain ⟨x, y, rfl, _⟩ := h
    rfl
  · obtain ⟨x, y, rfl, ls, k⟩ := h
    refine ⟨_, (pss_cons (ps_set (i := 1) sc__law_parts.nd rfl (Or.inl rfl) (pe_op op_add pe_int (pe_call G__law_drawn (hr.mono (by decide)) (by rfl) T.mg__law_drawn T.F__law_drawn.kp (b__law_drawn T) .nil pass0 (pa_cons (pv 0) (pa_cons pe_int pa_nil)))))
      (pss_cons (ps_set (i := 2) sc__law_parts.nd rfl (Or.inl rfl) (pe_op op_cat (pe_lst (pa_cons pe_int pa_nil)) (pe_slice sl_list (pe_lc (own := [("_law_begin", 3)]) (g := gName 3) rfl sc__law_parts.nd (pi_range2 (by rfl) T.z_range (pa_cons pe_int (pa_cons (pv 1) pa_nil))) (blkOk_by (own := [("_law_begin", 3)]) (N := ["_law_state", "_law_length", "_law_begins", "_law_begin", "_law_parts_here", "_law_low"]) (sc := (defScope s__law_parts)) (by decide +kernel)) (fun _ _ _ _ _ => pg_name (i := 3) sc__law_parts.nd rfl (Or.inl rfl)) (fun _ _ _ _ _ => pts_one (pt_cmpR op_eq (pe_call G__law_drawn (hr.mono (by decide)) (by rfl) T.mg__law_drawn T.F__law_drawn.kp (b__law_drawn T) .nil pass0 (pa_cons (pv 0) (pa_cons pe_int pa_nil))) pe_int (nomark _))) (fun _ _ _ _ _ => (pv 3))) po_none (po_some pe_int))))
      (pss_cons (ps_set (i := 4) sc__law_parts.nd rfl (Or.inl rfl) (pe_lst pa_nil))
      (pss_cons (ps_for PassesOwn.never rfl (pi_list (pv 2)) (pg_name (i := 3) sc__law_parts.nd rfl (Or.inl rfl))
        (pss_cons (ps_set (i := 5) sc__law_parts.nd rfl (Or.inl rfl) (pe_op op_sub (pe_call G__law_drawn (hr.mono (by decide)) (by rfl) T.mg__law_drawn T.F__law_drawn.kp (b__law_drawn T) .nil pass0 (pa_cons (pv 0) (pa_cons pe_int pa_nil))) pe_int))
      (pss_one (ps_expr (pe_bm PySem.F.plainAttrs_list PySem.F.slot_list_append PySem.F.type_list_append mt_append (pv 4) (pa_cons (pe_tup (pa_cons (pv 3) (pa_cons (pv 5) (pa_cons (pe_op op_add (pv 5) (pe_call G__law_drawn (hr.mono (by decide)) (by rfl) T.mg__law_drawn T.F__law_drawn.kp (b__law_drawn T) .nil pass0 (pa_cons (pv 0) (pa_cons pe_int pa_nil)))) pa_nil)))) pa_nil))))))
      (pss_one (ps_ret (pe_tup (pa_cons (pv 1) (pa_cons (pv 4) pa_nil))))))))), ?_⟩
    refine seq_unf ?_
    refine ⟨_, rfl, x, y, 24, rfl, ls, by decide, by decide, fun r H1 r0 r1 ls1 k1 => ?_⟩
    refine ⟨_, _, rfl, rfl, ?_⟩
    obtain ⟨L, hL⟩ : ∃ L : Nat, 1 + r = (L : Nat) := ⟨(1 + r).toNat, by omega⟩
    show gName 1 (.int (1 + r)) _ _ _
    rw [hL]
    refine g_unf ?_
    refine ⟨by show 1 ≤ sizeLine; decide, fun Z nZ => ?_⟩
    have sZ := same_upd (o := .lst [.int 0]) nZ
    have lsZ := ls1.same sZ
    have nZx := ls1.off nZ
    refine ⟨_, rfl, 1, L, rfl, ⟨by decide, by decide, by omega, by omega⟩, fun D nD => have ny := lsZ.fresh nD; lc_range (lo := 1) (n := ((L : Int) - 1).toNat) (fun i H' => ∃ rs : List Int, rs.length ≤ i ∧ rs.Pairwise (· < ·) ∧ (∀ r ∈ rs, 1 ≤ r ∧ r < 1 + (i : Int)) ∧ H' D = some (.lst (rs.map V.int)) ∧ H' Z = some (.lst [.int 0]) ∧ LS K H' x y ∧ Kp x H1 H') ⟨[], Nat.le_refl _, .nil, (fun r hr => by cases hr), upd_same, same_upd nD _ _ upd_same, lsZ.same (same_upd nD), (Kp.of sZ).trans (Kp.of (same_upd nD))⟩ ?_ ?_⟩
    · rintro i H' hi ⟨rs, rl, pw, rb, hD, hZ, ls', k'⟩
      have nDx := lsZ.off nD
      have nDZ : Z ≠ D := ne_of_none upd_same nD
      refine ⟨rfl, _, rfl, x, y, 6, rfl, ls', by decide, by decide, fun r3 H3 r30 r31 ls3 k3 => ?_⟩
      have hD3 := k3 _ _ nDx hD
      have hZ3 := k3 _ _ nZx hZ
      refine ⟨rfl, _, rfl, ?_⟩
      by_cases c : r3 = 0
      · refine ifT (dT (congrArg V.int c)) ⟨_, rfl, _, hD3, by rw [List.length_map]; exact small1000 (by omega), rs ++ [1 + (i : Int)], by rw [List.length_append, List.length_singleton]; omega, List.pairwise_append.mpr ⟨pw, List.pairwise_singleton .., fun u hu v hv => by rw [List.mem_singleton.mp hv]; exact (rb u hu).2⟩, fun u hu => ?_, by rw [upd_same, List.map_append]; rfl, by rw [upd_ne nDZ]; exact hZ3, ls3.updD nDx ny, fun b o nb e => ?_⟩
        · rcases List.mem_append.mp hu with hu | hu
          · have := rb u hu; omega
          · rw [List.mem_singleton.mp hu]; omega
        · have e2 := k3 _ _ nb (k' _ _ nb e)
          rw [upd_ne (ne_of_none (sZ _ _ e) nD)]
          exact e2
      · refine ifF (dF (fun z => c (by injection z))) ⟨rs, by omega, pw, (fun u hu => by have := rb u hu; omega), hD3, hZ3, ls3, k'.trans k3⟩
    · rintro H2 ⟨rs, rl, pw, rb, hD, hZ, ls2, k2⟩
      refine ⟨3, rfl, D, _, rfl, SqL.of hD, fun S nS => ?_⟩
      rw [show cutV (rs.map V.int) none (some 3) = (rs.take 3).map V.int from cutPre (i := 3)]
      have sS := same_upd (o := .lst ((rs.take 3).map V.int)) nS
      refine ⟨Z, S, _, _, rfl, rfl, sS _ _ hZ, upd_same, by rw [List.length_map]; exact Nat.le_of_lt (small1000 (by show 1 + _ ≤ 1000; have := List.length_take_le 3 rs; omega)), fun B nB => ?_⟩
      have sB := same_upd (o := .lst ((0 :: rs.take 3).map V.int)) nB
      have k3 : Kp x H1 (upd (upd H2 S (.lst ((rs.take 3).map V.int))) B (.lst ((0 :: rs.take 3).map V.int))) := (k2.trans (Kp.of sS)).trans (Kp.of sB)
      have ls3 := (ls2.same sS).same sB
      have hB : (upd (upd H2 S (.lst ((rs.take 3).map V.int))) B (.lst ((0 :: rs.take 3).map V.int))) B = some (.lst ((0 :: rs.take 3).map V.int)) := upd_same
      have nBx := (ls2.same sS).off nB
      show gName 2 (.ref B) _ (upd (upd H2 S (.lst ((rs.take 3).map V.int))) B (.lst ((0 :: rs.take 3).map V.int))) _
      generalize upd (upd H2 S (.lst ((rs.take 3).map V.int))) B (.lst ((0 :: rs.take 3).map V.int)) = H3 at k3 ls3 hB ⊢
      have pw3 : (0 :: rs.take 3).Pairwise (· < ·) := List.pairwise_cons.mpr ⟨fun u hu => by have := rb u (List.mem_of_mem_take hu); omega, pw.sublist (List.take_sublist _ _)⟩
      have rb3 : ∀ u ∈ (0 :: rs.take 3), (0 : Int) ≤ u ∧ u < L := fun u hu => by
        rcases List.mem_cons.mp hu with rfl | hu
        · omega
        · have := rb u (List.mem_of_mem_take hu); omega
      have rl3 : (0 :: rs.take 3).length ≤ 4 := by have := List.length_take_le 3 rs; rw [List.length_cons]; omega
      have h0 : ∃ t, (0 :: rs.take 3) = 0 :: t := ⟨_, rfl⟩
      generalize (0 :: rs.take 3) = bs at hB pw3 rb3 rl3 h0 ⊢
      refine g_unf ?_
      refine ⟨by show 0 ≤ sizeLine; decide, fun U nU => ?_⟩
      have sU := same_upd (o := .lst []) nU
      have nUx := ls3.off nU
      have nUy := ls3.fresh nU
      have nUB : B ≠ U := ne_of_none hB nU
      refine g_seq ?_
      refine ⟨_, rfl, B, rfl, ⟨_, SqL.of (sU _ _ hB)⟩, for_list (K := K) (a := B) (xs := bs.map V.int) (fun i σ H' => (∃ u3 u5 : Option V, σ = [some (.ref x), some (.int (L : Nat)), some (.ref B), u3, some (.ref U), u5]) ∧ ∃ qs ps, H' U = some (.lst (qs.map V.ref)) ∧ PartsAt H' qs ps ∧ ps.map (·.1) = bs.take i ∧ (∀ p ∈ ps, thrOk p.2.1 p.2.2 = true) ∧ H' B = some (.lst (bs.map V.int)) ∧ LS K H' x y ∧ Kp x H1 H') ⟨⟨_, _, rfl⟩, [], [], upd_same, parts_nil, rfl, (fun p hp => by cases hp), sU _ _ hB, ls3.same sU, k3.trans (Kp.of sU)⟩ (fun i σ H' _ ⟨_, _, _, _, _, _, _, e, _⟩ => SqL.of e) ?_ ?_⟩
      · rintro i v σ H' hx ⟨⟨u3, u5, rfl⟩, qs, ps, hU, pa, pm, pt, hB', ls', k'⟩
        obtain ⟨b, hb, rfl⟩ : ∃ b, bs[i]? = some b ∧ v = .int b := by
          rw [List.getElem?_map] at hx
          cases e : bs[i]? with
          | none => rw [e] at hx; cases hx
          | some b => rw [e] at hx; exact ⟨b, rfl, (Option.some.inj hx).symm⟩
        refine g_unf ?_
        refine ⟨_, rfl, x, y, 40, rfl, ls', by decide, by decide, fun r4 H4 r40 r41 ls4 k4 => ?_⟩
        refine ⟨_, _, rfl, rfl, ?_⟩
        have hU4 := k4 _ _ nUx hU
        refine ⟨_, rfl, .inl ⟨rfl, _, SqL.of hU4⟩, _, rfl, _, rfl, _, rfl, _, rfl, x, y, 12, rfl, ls4, by decide, by decide, fun r5 H5 r50 r51 ls5 k5 => ?_⟩
        refine ⟨_, _, rfl, rfl, by show 3 ≤ sizeLine; decide, fun p np => ?_⟩
        have hU5 := k5 _ _ nUx hU4
        have sp := same_upd (o := .tup [.int b, .int (r4 - 20), .int (r4 - 20 + r5)]) np
        have nUp : U ≠ p := ne_of_none hU5 np
        have pl : qs.length ≤ 4 := by
          rw [pa.1]
          have := congrArg List.length pm
          rw [List.length_map, List.length_take] at this
          omega
        refine ⟨U, _, _, rfl, rfl, sp _ _ hU5, by rw [List.length_map]; exact small1000 (by omega), ⟨_, _, rfl⟩, qs ++ [p], ps ++ [(b, r4 - 20, r4 - 20 + r5)], by rw [upd_same, List.map_append]; rfl, ?_, ?_, fun q hq => ?_, ?_, ?_, ?_⟩
        · have pa5 := ((pa.kp ls' k4).kp ls4 k5).same sp
          have pa6 : PartsAt _ (qs ++ [p]) (ps ++ [(b, r4 - 20, r4 - 20 + r5)]) := parts_snoc pa5 (upd_same (o := .tup [.int b, .int (r4 - 20), .int (r4 - 20 + r5)]))
          exact ⟨pa6.1, fun j q pp e1 e2 => by
            have h := pa6.2 j q pp e1 e2
            rw [upd_ne (fun z => by rw [z, sp _ _ hU5] at h; cases h)]; exact h⟩
        · rw [List.map_append, pm, List.take_succ, hb]; rfl
        · rcases List.mem_append.mp hq with hq | hq
          · exact pt q hq
          · rw [List.mem_singleton.mp hq]
            exact decide_eq_true (p := -1000000000000 ≤ r4 - 20 ∧ r4 - 20 ≤ r4 - 20 + r5 ∧ r4 - 20 + r5 ≤ 1000000000000) ⟨by omega, by omega, by omega⟩
        · rw [upd_ne nUB]; exact sp _ _ (k5 _ _ nBx (k4 _ _ nBx hB'))
        · exact (ls5.same sp).updD nUx nUy
        · intro c o nc e
          have e1 := k3 _ _ nc e
          rw [upd_ne (ne_of_none e1 nU)]
          exact sp _ _ (k5 _ _ nc (k4 _ _ nc (k' _ _ nc e)))
      · rintro σ H4 ⟨⟨u3, u5, rfl⟩, qs, ps, hU, pa, pm, pt, hB', ls4, k4⟩
        rw [List.length_map, List.take_length] at pm
        refine ⟨_, rfl, _, rfl, by show 2 ≤ sizeLine; decide, fun p np => ?_⟩
        have sp := same_upd (o := .tup [.int (L : Nat), .ref U]) np
        have pl : ps.length = bs.length := by rw [← pm, List.length_map]
        obtain ⟨t, ht⟩ := h0
        refine k p U qs ps L _ ⟨by omega, by omega, ?_, by rw [pl, ht]; exact Nat.succ_le_succ (Nat.zero_le _), by omega, pt⟩ upd_same (sp _ _ hU) (pa.same sp) nUx (ls4.same sp) (k1.trans (k4.trans (Kp.of sp)))
        unfold fip
        rw [if_neg (fun z => by rw [z, ht] at pm; cases pm)]
        refine fipGo_none ps 0 (-1) (by rw [pm]; exact pw3) (fun q hq => ?_) (fun _ q t' e => ?_)
        · have := rb3 q.1 (by rw [← pm]; exact List.mem_map_of_mem hq)
          exact ⟨by omega, this.2, pt q hq⟩
        · rw [e, ht] at pm
          injection pm
theorem rest_made {H : Hp} {R : VK} {E : XK} {lo hi r : Int} {s ds : Addr} (tk : thrOk lo hi = true) (r0 : 0 ≤ r) (r1 : r ≤ 1000) (ns : H s = none) (nds : H ds = none) (k : ∀ H', Same H H' → RestAt a H' s lo hi r → R .non H') : spRsi a (V.ref s :: [.int lo, .int hi] ++ [.int r]) (upd (upd H ds (.own s)) s (.ins a.c_RestSetting ds [])) R E :=
  ⟨s, ds, lo, hi, r, rfl, upd_same, tk, r0, r1, fun H' fr e => k H' (Fr1.made ns nds fr) e⟩
theorem hours_made {H : Hp} {R : VK} {E : XK} {L : Nat} {qs : List Addr} {ps : List (Int × Int × Int)} {s ds : Addr} (pa : PartsAt H qs ps) (ok : POk L ps) (ns : H s = none) (nds : H ds = none) (k : ∀ H', Same H H' → HourAt a H' s L ps → R .non H') : spHos a (V.ref s :: .int (L : Nat) :: qs.map V.ref) (upd (upd H ds (.own s)) s (.ins a.c_HourSetting ds [])) R E := by
  refine ⟨[.ref s, .int L], qs.map V.ref, rfl, rfl, by rw [List.length_map, pa.1]; exact Nat.le_of_lt (small1000 (by have := ok.n4; omega)), fun p hp => ?_⟩
  have s1 := same_upd (o := .tup (qs.map V.ref)) hp
  exact ⟨s, ds, p, L, qs, ps, rfl, s1 _ _ upd_same, upd_same, (pa.same (same_made ns nds)).same s1, ok.l1, ok.l24, ok.fn, fun H' fr h => k H' (Fr1.made ns nds ((Fr1.of s1).trans fr)) h⟩
theorem ok__law_setting (T : Txt K mg a) (SW : StC P K mg a) : FnOk P w K mg base CX0 5 a.f__law_setting a.d__law_setting ["_law_word", "_law_length", "_law_parts_here", "_law_pause"] (spSetg K a) := by
  have G_Setting_init : FnOk P w K mg base CX0 2 a.f_Setting_init a.d_Setting_init ["self", "low", "high"] (spSti K) := ok_Setting_init T
  have G_HourSetting_init := ok_HourSetting_init (P := P) (w := w) (base := base) T
  have G_RestSetting_init := ok_RestSetting_init (w := w) (base := base) T SW
  have kbr := rest_kb SW
  refine T.F__law_setting.ok sc__law_setting (fun vs H Q E h => ?_) (fun cdv A outer s H vs Q E hr h => ?_)
  · obtain ⟨U, qs, ps, L, r, kd, rfl, _⟩ := h
    rfl
  · obtain ⟨U, qs, ps, L, r, kd, rfl, hU, pa, ok, r0, r1, k⟩ := h
    refine ⟨_, (pss_cons (ps_asg (pe_slice (show SlR _ (rSlT K) from sl_tup) (pe_ix ix_list (pv 2) pe_int (fun _ _ => rfl)) (po_some pe_int) po_none) (pg_tup rfl (pgs_cons (pg_name (i := 4) sc__law_setting.nd rfl (Or.inl rfl)) (pgs_cons (pg_name (i := 5) sc__law_setting.nd rfl (Or.inl rfl)) pgs_nil))))
      (pss_cons (ps_if (pt_cmpR op_eq (pv 0) pe_str (nomark _)) (pss_one (ps_ret (pe_make T.mk_Setting G_Setting_init (hr.mono (by decide)) (by rfl) T.mg_Setting (b_Setting_init T) .nil pass0 (pa_cons (pv 4) (pa_cons (pv 5) pa_nil))))) pss_nil)
      (pss_cons (ps_if (pt_cmpR op_eq (pv 0) pe_str (nomark _)) (pss_one (ps_ret (pe_makeK T.mk_RestSetting G_RestSetting_init (hr.mono (by decide)) (by rfl) T.mg_RestSetting kbr pass0 (pa_cons (pv 4) (pa_cons (pv 5) pa_nil)) (pk_cons (pv 3) pk_nil)))) pss_nil)
      (pss_cons (ps_if (pt_cmpR op_eq (pe_callB call_len_seq (by rfl) T.z_len PySem.boot_len (pa_cons (pv 2) pa_nil)) pe_int (nomark _)) (pss_one (ps_ret (pe_makeR T.mk_HourSetting G_HourSetting_init (hr.mono (by decide)) (by rfl) T.mg_HourSetting pass0 (pa_cons (pv 1) (pa_cons (pe_ix ix_list (pv 2) pe_int (fun _ _ => rfl)) pa_nil))))) pss_nil)
      (pss_cons (ps_if (pt_cmpR op_eq (pe_callB call_len_seq (by rfl) T.z_len PySem.boot_len (pa_cons (pv 2) pa_nil)) pe_int (nomark _)) (pss_one (ps_ret (pe_makeR T.mk_HourSetting G_HourSetting_init (hr.mono (by decide)) (by rfl) T.mg_HourSetting pass0 (pa_cons (pv 1) (pa_cons (pe_ix ix_list (pv 2) pe_int (fun _ _ => rfl)) (pa_cons (pe_ix ix_list (pv 2) pe_int (fun _ _ => rfl)) pa_nil)))))) pss_nil)
      (pss_cons (ps_if (pt_cmpR op_eq (pe_callB call_len_seq (by rfl) T.z_len PySem.boot_len (pa_cons (pv 2) pa_nil)) pe_int (nomark _)) (pss_one (ps_ret (pe_makeR T.mk_HourSetting G_HourSetting_init (hr.mono (by decide)) (by rfl) T.mg_HourSetting pass0 (pa_cons (pv 1) (pa_cons (pe_ix ix_list (pv 2) pe_int (fun _ _ => rfl)) (pa_cons (pe_ix ix_list (pv 2) pe_int (fun _ _ => rfl)) (pa_cons (pe_ix ix_list (pv 2) pe_int (fun _ _ => rfl)) pa_nil))))))) pss_nil)
      (pss_one (ps_ret (pe_makeR T.mk_HourSetting G_HourSetting_init (hr.mono (by decide)) (by rfl) T.mg_HourSetting pass0 (pa_cons (pv 1) (pa_cons (pe_ix ix_list (pv 2) pe_int (fun _ _ => rfl)) (pa_cons (pe_ix ix_list (pv 2) pe_int (fun _ _ => rfl)) (pa_cons (pe_ix ix_list (pv 2) pe_int (fun _ _ => rfl)) (pa_cons (pe_ix ix_list (pv 2) pe_int (fun _ _ => rfl)) pa_nil)))))))))))))), ?_⟩
    have n1 := ok.n1
    have n4 := ok.n4
    have sl := SqL.of (K := K) hU
    obtain ⟨q0, qr, rfl⟩ : ∃ q0 qr, qs = q0 :: qr := by
      cases qs with
      | nil => have := pa.1; rw [List.length_nil] at this; omega
      | cons q0 qr => exact ⟨q0, qr, rfl⟩
    obtain ⟨p0, pr, rfl⟩ : ∃ p0 pr, ps = p0 :: pr := by
      cases ps with
      | nil => simp at n1
      | cons p0 pr => exact ⟨p0, pr, rfl⟩
    have h0 := pa.2 0 q0 p0 rfl rfl
    have t0 := ok.th p0 (List.mem_cons_self ..)
    refine seq_unf ?_
    refine ⟨_, rfl, U, _, _, _, rfl, rfl, sl, at_int (by decide) rfl, 1, rfl, q0, _, rfl, SqT.of h0, hw3, fun p np => ?_⟩
    rw [cut3]
    have s1 := same_upd (o := .tup [.int p0.2.1, .int p0.2.2]) np
    refine ⟨p, _, rfl, SqT.of upd_same, rfl, _, _, rfl, _, _, rfl, rfl, ?_⟩
    have hU1 := SqL.of (K := K) (s1 _ _ hU)
    have pa1 := pa.same s1
    have lq : (q0 :: qr).length = (p0 :: pr).length := pa.1
    generalize upd H p (.tup [.int p0.2.1, .int p0.2.2]) = H1 at s1 hU1 pa1 ⊢
    cases kd with
    | plain =>
      refine ⟨_, rfl, rfl, _, rfl, ifT rfl ?_⟩
      exact ⟨_, rfl, _, rfl, fun s ds ns nds _ => setting_made T t0 ns nds fun H2 s2 sa => ⟨rfl, k s H2 (s1.trans s2) sa⟩⟩
    | rest =>
      refine ⟨_, rfl, rfl, _, rfl, ifF rfl ?_⟩
      refine ⟨_, rfl, rfl, _, rfl, ifT rfl ?_⟩
      exact ⟨_, rfl, _, rfl, _, rfl, rfl, rfl, fun s ds ns nds _ => rest_made t0 r0 r1 ns nds fun H2 s2 sa => ⟨rfl, k s H2 (s1.trans s2) sa⟩⟩
    | hours =>
      refine ⟨_, rfl, rfl, _, rfl, ifF rfl ?_⟩
      refine ⟨_, rfl, rfl, _, rfl, ifF rfl ?_⟩
      have mk : ∀ (s ds : Addr), H1 s = none → H1 ds = none → spHos a (V.ref s :: .int (L : Nat) :: (q0 :: qr).map V.ref) (upd (upd H1 ds (.own s)) s (.ins a.c_HourSetting ds [])) (fun v H2 => v = .non ∧ Q (.ref s) H2) fun _ _ _ => False := fun s ds ns nds => hours_made pa1 ok ns nds fun H2 s2 sa => ⟨rfl, k s H2 (s1.trans s2) sa⟩
      match qr, pr, lq, n4, hU1, mk with
      | [], _, _, _, sl, mk =>
        refine ⟨_, rfl, U, _, rfl, .inl sl, rfl, _, rfl, ifT rfl ?_⟩
        exact ⟨_, rfl, _, rfl, U, _, _, _, rfl, rfl, sl, rfl, fun s ds ns nds _ => mk s ds ns nds⟩
      | [q1], _, _, _, sl, mk =>
        refine ⟨_, rfl, U, _, rfl, .inl sl, rfl, _, rfl, ifF rfl ?_⟩
        refine ⟨_, rfl, U, _, rfl, .inl sl, rfl, _, rfl, ifT rfl ?_⟩
        exact ⟨_, rfl, _, rfl, U, _, _, _, rfl, rfl, sl, rfl, _, rfl, U, _, _, _, rfl, rfl, sl, rfl, fun s ds ns nds _ => mk s ds ns nds⟩
      | [q1, q2], _, _, _, sl, mk =>
        refine ⟨_, rfl, U, _, rfl, .inl sl, rfl, _, rfl, ifF rfl ?_⟩
        refine ⟨_, rfl, U, _, rfl, .inl sl, rfl, _, rfl, ifF rfl ?_⟩
        refine ⟨_, rfl, U, _, rfl, .inl sl, rfl, _, rfl, ifT rfl ?_⟩
        exact ⟨_, rfl, _, rfl, U, _, _, _, rfl, rfl, sl, rfl, _, rfl, U, _, _, _, rfl, rfl, sl, rfl, _, rfl, U, _, _, _, rfl, rfl, sl, rfl, fun s ds ns nds _ => mk s ds ns nds⟩
      | [q1, q2, q3], _, _, _, sl, mk =>
        refine ⟨_, rfl, U, _, rfl, .inl sl, rfl, _, rfl, ifF rfl ?_⟩
        refine ⟨_, rfl, U, _, rfl, .inl sl, rfl, _, rfl, ifF rfl ?_⟩
        refine ⟨_, rfl, U, _, rfl, .inl sl, rfl, _, rfl, ifF rfl ?_⟩
        exact ⟨_, rfl, _, rfl, U, _, _, _, rfl, rfl, sl, rfl, _, rfl, U, _, _, _, rfl, rfl, sl, rfl, _, rfl, U, _, _, _, rfl, rfl, sl, rfl, _, rfl, U, _, _, _, rfl, rfl, sl, rfl, fun s ds ns nds _ => mk s ds ns nds⟩
      | q1 :: q2 :: q3 :: q4 :: qt, pr, lq, n4, _, _ =>
        exact absurd n4 (by rw [← lq]; simp)
end
end W6

set_option maxHeartbeats 4000000
namespace W6
open PySem PySem.Spec PyProof.Rows L2 Ru StX LamX
theorem set_get {σ : L2.St} {i j : Nat} {v w : V} (h : σ[j]? = some (some v)) (ne : i ≠ j) : (((wipe σ [i]).set i (some w)))[j]? = some (some v) := by
  rw [List.getElem?_set_ne ne]
  show (σ.set i none)[j]? = _
  rw [List.getElem?_set_ne ne]
  exact h
/-- [part[1:] for part in parts if part[0] <= tick % length] -/
theorem hours_lc {K : PySem.W.Frag} {iU iP iT iL L t : Nat} {σ : L2.St} {H : Hp} {Q : VK} {U : Addr} {qs : List Addr} {ps : List (Int × Int × Int)} (hU : σ[iU]? = some (some (.ref U))) (hT : σ[iT]? = some (some (.int (t : Nat)))) (hL : σ[iL]? = some (some (.int (L : Nat)))) (hi : iP < σ.length) (n1 : iP ≠ iT) (n2 : iP ≠ iL) (l1 : 1 ≤ L) (pl : ps.length ≤ 1000)
    (hl : H U = some (.lst (qs.map V.ref))) (pa : PartsAt H qs ps) (k : ∀ D rs H', Same H H' → H' D = some (.lst (rs.map V.ref)) → PrsAt H' rs (hourF L ps t ps.length) → Q (.ref D) H') :
    tLc (iList K (tVar iU)) (gName iP) (tTest (tOp (rI0 fun i j => .bl (decide (i ≤ j))) (tOp (rIxT K) (tVar iP) (tC (.int 0))) (tOp (rI (fun _ j => 0 < j) fun i j => .int (i % j)) (tVar iT) (tVar iL)))) (L2.tSl (rSlT K) (tVar iP) (tPart (tC (.int 1))) tNoPart) [iP] σ H Q := by
  refine ⟨_, hU, U, rfl, ⟨_, SqL.of hl⟩, fun D nD => lc_list (K := K) (a := U) (xs := qs.map V.ref) (fun i H2 => Same H H2 ∧ ∃ rs, H2 D = some (.lst (rs.map V.ref)) ∧ PrsAt H2 rs (hourF L ps t i)) ⟨same_upd nD, [], upd_same, rfl, fun j r q e => by simp at e⟩ (fun j H2 _ q => SqL.of (q.1 _ _ hl)) ?_ ?_⟩
  · rintro i v H2 hx ⟨s2, rs, hD, pr⟩
    obtain ⟨q, pp, rfl, hpp, hq⟩ := (pa.same s2).at hx
    have hw : (wipe σ [iP]).length = σ.length := wipe_length σ [iP]
    have hs := hourF_succ (L := L) (t := t) hpp
    have gP : ((wipe σ [iP]).set iP (some (V.ref q)))[iP]? = some (some (.ref q)) := List.getElem?_set_self (by rw [hw]; exact hi)
    refine ⟨?_, ?_⟩
    · show ((wipe σ []).set iP none |>.set iP (some (V.ref q))).set iP none = (wipe σ []).set iP none
      rw [List.set_set, List.set_set]
    refine ⟨_, gP, q, _, _, _, rfl, rfl, SqT.of hq, rfl, _, set_get hT n1, _, set_get hL n2, _, _, rfl, rfl, by omega, _, _, rfl, rfl, _, rfl, ?_⟩
    by_cases c : pp.1 ≤ ((t % L : Nat) : Int)
    · refine ifT (dT c) ⟨_, gP, 1, rfl, q, _, rfl, SqT.of hq, hw3, fun r nr => ?_⟩
      rw [cut3]
      have nDr : D ≠ r := ne_of_none hD nr
      have hD3 : (upd H2 r (.tup [.int pp.2.1, .int pp.2.2])) D = some (.lst (rs.map V.ref)) := by rw [upd_ne nDr]; exact hD
      have le : rs.length ≤ ps.length := by
        rw [pr.1]
        unfold hourF
        rw [List.length_map]
        exact Nat.le_trans (List.length_filter_le _ _) (by rw [List.length_take]; omega)
      refine ⟨_, hD3, by rw [List.length_map]; exact small1000 (by omega), lcStep' nD (s2.trans (same_upd nr)), rs ++ [r], by rw [upd_same, List.map_append]; rfl, ?_⟩
      rw [hs, if_pos c]
      refine ⟨by rw [List.length_append, List.length_append, pr.1]; rfl, fun j r' q' e1 e2 => ?_⟩
      have off : ∀ {b : Addr}, (∃ xs, H2 b = some (.tup xs)) → b ≠ D ∧ b ≠ r := fun {b} ⟨xs, e⟩ => ⟨ne_of e hD (fun z => nomatch z), ne_of_none e nr⟩
      rcases Nat.lt_or_ge j rs.length with l | g
      · rw [List.getElem?_append_left l] at e1
        rw [List.getElem?_append_left (by rw [← pr.1]; exact l)] at e2
        have e := pr.2 j r' q' e1 e2
        obtain ⟨o1, o2⟩ := off ⟨_, e⟩
        rw [upd_ne o1, upd_ne o2]; exact e
      · have ej : j = rs.length := by
          have := (List.getElem?_eq_some_iff.mp e1).1
          rw [List.length_append, List.length_singleton] at this
          omega
        subst ej
        rw [List.getElem?_append_right (Nat.le_refl _), Nat.sub_self] at e1
        rw [List.getElem?_append_right (by rw [pr.1]; exact Nat.le_refl _), pr.1, Nat.sub_self] at e2
        cases e1
        cases e2
        rw [upd_ne (Ne.symm nDr), upd_same]
    · refine ifF (dF c) ⟨s2, rs, hD, ?_⟩
      rw [hs, if_neg c]; exact pr
  · rintro H2 ⟨s2, rs, hD, pr⟩
    rw [List.length_map, pa.1] at pr
    exact k D rs H2 s2 hD pr
/-- .. its last -/
theorem hours_last {H : Hp} {rs : List Addr} {L t : Nat} {ps : List (Int × Int × Int)} (fn : fip L ps = none) (pr : PrsAt H rs (hourF L ps t ps.length)) : ∃ r, atI (rs.map V.ref) (-1) = some (.ref r) ∧ H r = some (.tup [.int (Th.hourT L ps t).1, .int (Th.hourT L ps t).2]) := by
  obtain ⟨p0, r0, e0, b0⟩ := fip_none fn
  have ne : hourF L ps t ps.length ≠ [] := by
    unfold hourF
    rw [List.take_length, e0, List.filter_cons_of_pos (by rw [b0]; exact decide_eq_true (Int.natCast_nonneg _))]
    exact List.cons_ne_nil _ _
  have lr : 1 ≤ rs.length := by
    rw [pr.1]
    exact List.length_pos_iff.mpr ne
  obtain ⟨r, er⟩ : ∃ r, rs[rs.length - 1]? = some r := ⟨_, List.getElem?_eq_getElem (by omega)⟩
  have eq : (hourF L ps t ps.length)[rs.length - 1]? = some (Th.hourT L ps t) := by
    rw [pr.1, ← List.getLast?_eq_getElem?]
    unfold Th.hourT
    have e : hourF L ps t ps.length = (ps.filter fun p => decide (p.1 ≤ ((t % L : Nat) : Int))).map (·.2) := by unfold hourF; rw [List.take_length]
    rw [← e]
    cases q : hourF L ps t ps.length with
    | nil => exact absurd q ne
    | cons x y => rw [List.getLast?_eq_some_getLast (List.cons_ne_nil _ _)]; rfl
  exact ⟨r, atI_last er, pr.2 _ _ _ er eq⟩
theorem sum_on {d c g : Int} {b : Bool} : d + g * (if b then 1 else 0) + c = d + c + Th.gon g b := by
  unfold Th.gon
  cases b with
  | true => rw [if_pos rfl, if_pos rfl]; omega
  | false => rw [if_neg (by decide), if_neg (by decide)]; omega
theorem at_ch {ch : List Int} {k : Nat} (h : 1 ≤ ch.length) : atI (ch.map V.int) ((k : Int) % (((ch.map V.int).length : Nat) : Int)) = some (.int (Th.chAt ch k)) := by
  have n1 : (ch.map V.int).length = ch.length := List.length_map _
  have l : k % ch.length < ch.length := Nat.mod_lt _ (by omega)
  have e : (k : Int) % (((ch.map V.int).length : Nat) : Int) = ((k % ch.length : Nat) : Int) := by rw [n1]; rfl
  rw [e]
  refine at_int (Int.natCast_nonneg _) ?_
  show (ch.map V.int)[k % ch.length]? = _
  rw [List.getElem?_map, List.getElem?_eq_getElem l]
  simp [Th.chAt, List.getD, List.getElem?_eq_getElem l]
theorem g_asgE {i : Nat} {v : V} {te : TE} {g : TG} {D : Ends} {σ : L2.St} {H : Hp} (h : te (σ.set i (some v)) H fun w H' => g w (σ.set i (some v)) H' D.nx) : gName i v σ H (tAsg te g D) := h
theorem asg_op {r : L2.R2} {ta tb : TE} {g : TG} {D : Ends} {σ : L2.St} {H : Hp} (h : ta σ H fun x H1 => tb σ H1 fun y H2 => r x y H2 fun v H3 => g v σ H3 D.nx) : tAsg (tOp r ta tb) g D σ H := h
theorem g_any {i : Nat} {v : V} {t u : TS} {D : Ends} {σ : L2.St} {H : Hp} (C : L2.St → Hp → Prop) (h1 : ∀ D' : Ends, (∀ σ H, C σ H → D'.nx σ H) → t D' (σ.set i (some v)) H) (h2 : ∀ σ H, C σ H → u D σ H) : gName i v σ H (tSeq t u D) := h1 _ h2
theorem seq_any {t u : TS} {D : Ends} {σ : L2.St} {H : Hp} (C : L2.St → Hp → Prop) (h1 : ∀ D' : Ends, (∀ σ H, C σ H → D'.nx σ H) → t D' σ H) (h2 : ∀ σ H, C σ H → u D σ H) : tSeq t u D σ H := h1 _ h2
section
variable {P : Program} {w : World} {K : PySem.W.Frag} {mg : Str → Option Value} {base : Heap} {a : Ad} {er : Er2}
def spWd (K : PySem.W.Frag) : Sp := fun vs H Q _ => ∃ (U C : Addr) (qs : List Addr) (ps : List (Int × Int × Int)) (L n : Nat) (r g st : Int) (kd : Kd) (ch : List Int), vs = [.str kd.str, .int (L : Nat), .ref U, .int r, .ref C, .int g, .int st, .int (n : Nat)] ∧ H U = some (.lst (qs.map V.ref)) ∧ PartsAt H qs ps ∧ POk L ps ∧ H C = some (.lst (ch.map V.int)) ∧ CH ch ∧ n ≤ 100 ∧ 1 ≤ g ∧ g ≤ 200 ∧ ∀ R ys H', H' R = some (.lst ys) → ys.length = n → Rws (kd.S L ps r) ch g st H' ys → H R = none → Same H H' → Q (.ref R) H'
theorem ok__law_watched (T : Txt K mg a) : FnOk P w K mg base CX0 1 a.f__law_watched a.d__law_watched ["_law_word", "_law_length", "_law_parts_here", "_law_pause", "_law_changes_here", "_law_gain", "_law_start_here", "_law_count"] (spWd K) := by
  refine T.F__law_watched.ok sc__law_watched (fun vs H Q E h => ?_) (fun cdv A outer s H vs Q E hr h => ?_)
  · obtain ⟨U, C, qs, ps, L, n, r, g, st, kd, ch, rfl, _⟩ := h
    rfl
  · obtain ⟨U, C, qs, ps, L, n, r, g, st, kd, ch, rfl, hU, pa, ok, hC, cch, n100, g1, g2, k⟩ := h
    refine ⟨_, (pss_cons (ps_asg (pe_tup (pa_cons (pe_lst pa_nil) (pa_cons (pv 6) (pa_cons pe_bl (pa_cons pe_non pa_nil))))) (pg_tup rfl (pgs_cons (pg_name (i := 8) sc__law_watched.nd rfl (Or.inl rfl)) (pgs_cons (pg_name (i := 9) sc__law_watched.nd rfl (Or.inl rfl)) (pgs_cons (pg_name (i := 10) sc__law_watched.nd rfl (Or.inl rfl)) (pgs_cons (pg_name (i := 11) sc__law_watched.nd rfl (Or.inl rfl)) pgs_nil))))))
      (pss_cons (ps_for PassesOwn.never rfl (pi_range1 (by rfl) T.z_range (pa_cons (pv 7) pa_nil)) (pg_name (i := 12) sc__law_watched.nd rfl (Or.inr rfl))
        (pss_cons (ps_asg (pe_slice (show SlR _ (rSlT K) from sl_tup) (pe_ix ix_list (pv 2) pe_int (fun _ _ => rfl)) (po_some pe_int) po_none) (pg_tup rfl (pgs_cons (pg_name (i := 13) sc__law_watched.nd rfl (Or.inl rfl)) (pgs_cons (pg_name (i := 14) sc__law_watched.nd rfl (Or.inl rfl)) pgs_nil))))
      (pss_cons (ps_if (pt_cmpR op_eq (pv 0) pe_str (nomark _)) (pss_one (ps_asg (pe_ix ix_list (pe_lc (own := [("_law_part", 15)]) (g := gName 15) rfl sc__law_watched.nd (pi_list (pv 2)) (blkOk_by (own := [("_law_part", 15)]) (N := ["_law_word", "_law_length", "_law_parts_here", "_law_pause", "_law_changes_here", "_law_gain", "_law_start_here", "_law_count", "_law_rows", "_law_warmth", "_law_heating", "_law_last", "_law_tick", "_law_low", "_law_high", "_law_part", "_law_wanted"]) (sc := (defScope s__law_watched)) (by decide +kernel)) (fun _ _ _ _ _ => pg_name (i := 15) sc__law_watched.nd rfl (Or.inl rfl)) (fun _ _ _ _ _ => pts_one (pt_cmpR op_le (pe_ix (show IxR _ (rIxT K) from ix_tup) (pv 15) pe_int (fun _ _ => rfl)) (pe_op op_mod (pv 12) (pv 1)) (nomark _))) (fun _ _ _ _ _ => (pe_slice (show SlR _ (rSlT K) from sl_tup) (pv 15) (po_some pe_int) po_none))) (pe_op op_sub pe_int pe_int) (fun _ _ => rfl)) (pg_tup rfl (pgs_cons (pg_name (i := 13) sc__law_watched.nd rfl (Or.inl rfl)) (pgs_cons (pg_name (i := 14) sc__law_watched.nd rfl (Or.inl rfl)) pgs_nil))))) pss_nil)
      (pss_cons (ps_set (i := 16) sc__law_watched.nd rfl (Or.inl rfl) (pv 10))
      (pss_cons (ps_if (pt_cmpR op_lt (pv 9) (pv 13) (nomark _)) (pss_one (ps_set (i := 16) sc__law_watched.nd rfl (Or.inl rfl) pe_bl)) (pss_one (ps_if (pt_cmpR op_gt (pv 9) (pv 14) (nomark _)) (pss_one (ps_set (i := 16) sc__law_watched.nd rfl (Or.inl rfl) pe_bl)) pss_nil)))
      (pss_cons (ps_if (PW.pt (pw_and (pt_cmpR op_ne (pv 16) (pv 10) (nomark _)) (pw_and1 (PW.pt (pw_or (pt_cmpR op_ne (pv 0) pe_str (nomark _)) (pw_or (pt_cmpR op_isN (pv 11) pe_non (nomark _)) (pw_or1 (pt_cmpR op_gt (pe_op op_sub (pv 12) (pv 11)) (pv 3) (nomark _))))))))) (pss_one (ps_par (i := 10) (j := 11) (by rfl) sc__law_watched.nd rfl rfl (by decide) rfl rfl (pa_cons (pv 16) (pa_cons (pv 12) pa_nil)) (by rfl))) pss_nil)
      (pss_cons (ps_expr (pe_bm PySem.F.plainAttrs_list PySem.F.slot_list_append PySem.F.type_list_append mt_append (pv 8) (pa_cons (pe_tup (pa_cons (pv 9) (pa_cons (pv 10) pa_nil))) pa_nil)))
      (pss_cons (ps_set (i := 9) sc__law_watched.nd rfl (Or.inl rfl) (pe_op op_add (pv 9) (pe_op op_mul (pv 5) (pe_callTy call_int1 (by rfl) T.z_int (by decide +kernel) (pa_cons (pv 10) pa_nil)))))
      (pss_one (ps_set (i := 9) sc__law_watched.nd rfl (Or.inl rfl) (pe_op op_add (pv 9) (pe_ix ix_list (pv 4) (pe_op op_mod (pv 12) (pe_callB call_len_seq (by rfl) T.z_len PySem.boot_len (pa_cons (pv 4) pa_nil))) (fun _ _ => rfl)))))))))))))
      (pss_one (ps_ret (pv 8))))), ?_⟩
    have n1 := ok.n1
    obtain ⟨q0, qr, rfl⟩ : ∃ q0 qr, qs = q0 :: qr := by
      cases qs with
      | nil => have := pa.1; rw [List.length_nil] at this; omega
      | cons q0 qr => exact ⟨q0, qr, rfl⟩
    obtain ⟨p0, pr, rfl⟩ : ∃ p0 pr, ps = p0 :: pr := by
      cases ps with
      | nil => simp at n1
      | cons p0 pr => exact ⟨p0, pr, rfl⟩
    have h0 := pa.2 0 q0 p0 rfl rfl
    generalize eS : kd.S L (p0 :: pr) r = S at k
    refine seq_unf ?_
    refine ⟨by show 0 ≤ sizeLine; decide, fun R nR => ⟨_, rfl, by show 4 ≤ sizeLine; decide, fun p np => ⟨p, _, rfl, SqT.of upd_same, rfl, _, _, rfl, _, _, rfl, _, _, rfl, _, _, rfl, rfl, ?_⟩⟩⟩
    have s0 := (same_upd (o := .lst []) nR).trans (same_upd (o := .tup [.ref R, .int st, .bl false, .non]) np)
    have hR := same_upd (o := .tup [.ref R, .int st, .bl false, .non]) np _ _ (upd_same (H := H) (a := R) (o := .lst []))
    generalize upd (upd H R (.lst [])) p (.tup [.ref R, .int st, .bl false, .non]) = H0 at s0 hR ⊢
    refine ⟨_, rfl, _, rfl, by omega, by omega, for_range (lo := 0) (n := ((n : Nat) : Int).toNat) (fun i σ H' => (∃ u12 u13 u14 u15 u16 : Option V, σ = [some (.str kd.str), some (.int (L : Nat)), some (.ref U), some (.int r), some (.ref C), some (.int g), some (.int st), some (.int (n : Nat)), some (.ref R), some (.int (S.st ch g st i).d), some (.bl (S.st ch g st i).on), some (optV (S.st ch g st i).last), u12, u13, u14, u15, u16]) ∧ ∃ ys, H' R = some (.lst ys) ∧ ys.length = i ∧ Rws S ch g st H' ys ∧ Same H H') ⟨⟨_, _, _, _, _, rfl⟩, [], hR, rfl, fun i v q => by simp at q, s0⟩ ?_ ?_⟩
    · rintro i σ H1 hi ⟨⟨u12, u13, u14, u15, u16, rfl⟩, ys, hR1, rfl, rw1, sm⟩
      have hi : ys.length < n := by omega
      have ei : (0 : Int) + (ys.length : Int) = ((ys.length : Nat) : Int) := Int.zero_add _
      rw [ei]
      refine g_unf ?_
      refine ⟨_, rfl, U, _, _, _, rfl, rfl, SqL.of (sm _ _ hU), at_int (by decide) rfl, 1, rfl, q0, _, rfl, SqT.of (sm _ _ h0), hw3, fun p np => ?_⟩
      rw [cut3]
      have s1 := same_upd (o := .tup [.int p0.2.1, .int p0.2.2]) np
      refine ⟨p, _, rfl, SqT.of upd_same, rfl, _, _, rfl, _, _, rfl, rfl, ?_⟩
      generalize upd H1 p (.tup [.int p0.2.1, .int p0.2.2]) = H2 at s1 ⊢
      dsimp only [List.set_cons_succ, List.set_cons_zero]
      have thr : S.thr ys.length = (kd.S L (p0 :: pr) r).thr ys.length := by rw [eS]
      refine seq_any (C := fun σ' H' => (∃ u15 u16 : Option V, σ' = [some (.str kd.str), some (.int (L : Nat)), some (.ref U), some (.int r), some (.ref C), some (.int g), some (.int st), some (.int (n : Nat)), some (.ref R), some (.int (S.st ch g st ys.length).d), some (.bl (S.st ch g st ys.length).on), some (optV (S.st ch g st ys.length).last), some (.int (ys.length : Nat)), some (.int (S.thr ys.length).1), some (.int (S.thr ys.length).2), u15, u16]) ∧ Same H1 H') (fun D' hD' => ?_) ?_
      · cases kd with
        | plain =>
          refine ⟨_, rfl, rfl, _, rfl, ifF rfl (tnext (hD' _ _ ⟨⟨u15, u16, ?_⟩, s1⟩))⟩
          rw [thr]
          rfl
        | rest =>
          refine ⟨_, rfl, rfl, _, rfl, ifF rfl (tnext (hD' _ _ ⟨⟨u15, u16, ?_⟩, s1⟩))⟩
          rw [thr]
          rfl
        | hours =>
          refine ⟨_, rfl, rfl, _, rfl, ifT rfl ?_⟩
          refine asg_op ?_
          refine hours_lc (L := L) (t := ys.length) rfl rfl rfl (by show 15 < 17; decide) (by decide) (by decide) ok.l1 (by have := ok.n4; omega) (s1 _ _ (sm _ _ hU)) ((pa.same sm).same s1) fun D rs H3 s3 hD pr3 => ?_
          obtain ⟨q, hat, hq⟩ := hours_last ok.fn pr3
          refine ⟨_, _, rfl, rfl, D, _, _, _, rfl, rfl, SqL.of hD, hat, ?_⟩
          refine ⟨q, _, rfl, SqT.of hq, rfl, _, _, rfl, _, _, rfl, rfl, hD' _ _ ⟨⟨u15, u16, ?_⟩, s1.trans s3⟩⟩
          rw [thr]
          rfl
      rintro σ' H3 ⟨⟨u15, u16, rfl⟩, s13⟩
      clear thr s1
      refine seq_unf ?_
      refine ⟨_, rfl, ?_⟩
      have rw3 := rw1.same s13
      have hR3 := s13 _ _ hR1
      have hC3 := s13 _ _ (sm _ _ hC)
      have sm3 := sm.trans s13
      have e1 : (S.st ch g st (ys.length + 1)).on = (S.sw ys.length (S.st ch g st ys.length)).1 := rfl
      have e2 : (S.st ch g st (ys.length + 1)).last = (S.sw ys.length (S.st ch g st ys.length)).2 := rfl
      have e3 : (S.st ch g st (ys.length + 1)).d = (S.st ch g st ys.length).d + Th.chAt ch ys.length + Th.gon g (S.sw ys.length (S.st ch g st ys.length)).1 := rfl
      have ewd : S.wd ch g st ys.length = (S.st ch g st ys.length).d := rfl
      have ewo : S.wo ch g st ys.length = (S.sw ys.length (S.st ch g st ys.length)).1 := rfl
      have ew : S.want ys.length (S.st ch g st ys.length) = Th.hst (S.st ch g st ys.length).d (S.thr ys.length).1 (S.thr ys.length).2 (S.st ch g st ys.length).on := rfl
      have swd : S.sw ys.length (S.st ch g st ys.length) = if (S.want ys.length (S.st ch g st ys.length) != (S.st ch g st ys.length).on) = true ∧ S.lets ys.length (S.st ch g st ys.length).last = true then (S.want ys.length (S.st ch g st ys.length), some ys.length) else ((S.st ch g st ys.length).on, (S.st ch g st ys.length).last) := rfl
      have lets : S.lets ys.length (S.st ch g st ys.length).last = (kd.S L (p0 :: pr) r).lets ys.length (S.st ch g st ys.length).last := by rw [eS]
      have snoc : ∀ {H' : Hp} {p : Addr}, Rws S ch g st H' ys → H' p = some (.tup [.int (S.st ch g st ys.length).d, .bl (S.sw ys.length (S.st ch g st ys.length)).1]) → Rws S ch g st H' (ys ++ [.ref p]) := fun h e => h.snoc (by rw [ewd, ewo]; exact e)
      rw [e1, e2, e3]
      generalize S.sw ys.length (S.st ch g st ys.length) = sw at swd snoc e1 e2 e3 ewo ⊢
      generalize S.want ys.length (S.st ch g st ys.length) = wv at swd ew ⊢
      generalize S.lets ys.length (S.st ch g st ys.length).last = lt at swd lets
      generalize (S.st ch g st ys.length).d = d at ew snoc ewd e3 ⊢
      generalize (S.st ch g st ys.length).on = on at ew swd ⊢
      generalize (S.st ch g st ys.length).last = last at swd lets ⊢
      generalize (S.thr ys.length).1 = lo at ew ⊢
      generalize (S.thr ys.length).2 = hi' at ew ⊢
      refine g_any (C := fun σ' H' => σ' = [some (.str kd.str), some (.int (L : Nat)), some (.ref U), some (.int r), some (.ref C), some (.int g), some (.int st), some (.int (n : Nat)), some (.ref R), some (.int d), some (.bl on), some (optV last), some (.int (ys.length : Nat)), some (.int lo), some (.int hi'), u15, some (.bl wv)] ∧ H' = H3) (fun D' hD' => ?_) ?_
      · refine tif_one ?_
        refine ⟨_, rfl, _, rfl, _, _, rfl, rfl, _, rfl, ?_⟩
        unfold Th.hst at ew
        by_cases c1 : d < lo
        · rw [if_pos c1] at ew
          exact ifT (dT c1) (hD' _ _ ⟨by rw [ew]; rfl, rfl⟩)
        · rw [if_neg c1] at ew
          refine ifF (dF c1) (tif_one ?_)
          refine ⟨_, rfl, _, rfl, _, _, rfl, rfl, _, rfl, ?_⟩
          by_cases c2 : d > hi'
          · rw [if_pos c2] at ew
            exact ifT (dT c2) (hD' _ _ ⟨by rw [ew]; rfl, rfl⟩)
          · rw [if_neg c2] at ew
            exact ifF (dF c2) (tnext (hD' _ _ ⟨by rw [ew]; rfl, rfl⟩))
      rintro σ' H4 ⟨rfl, rfl⟩
      clear ew
      refine seq_any (C := fun σ' H' => σ' = [some (.str kd.str), some (.int (L : Nat)), some (.ref U), some (.int r), some (.ref C), some (.int g), some (.int st), some (.int (n : Nat)), some (.ref R), some (.int d), some (.bl sw.1), some (optV sw.2), some (.int (ys.length : Nat)), some (.int lo), some (.int hi'), u15, some (.bl wv)] ∧ H' = H4) (fun D' hD' => ?_) ?_
      · refine tif_one (and_stp ?_)
        refine ⟨_, rfl, _, rfl, rfl, _, rfl, ?_⟩
        by_cases c : wv = on
        · rw [if_neg (fun z => by rw [c, Th.bne_self] at z; cases z.1)] at swd
          exact ifF (ndF (congrArg V.bl c)) (ifF rfl (tnext (hD' _ _ ⟨by rw [swd], rfl⟩)))
        · have cb : (wv != on) = true := by revert c; cases wv <;> cases on <;> simp
          refine ifT (by rw [dF (fun z => c (by injection z))]; rfl) (or_step ?_)
          have f1 : lt = true → sw = (wv, some ys.length) := fun z => by rw [swd, if_pos ⟨cb, z⟩]
          have f0 : lt = false → sw = (on, last) := fun z => by rw [swd, if_neg (fun y => by rw [z] at y; cases y.2)]
          clear swd
          cases kd with
          | plain =>
            have f1 := f1 lets
            exact ⟨_, rfl, rfl, _, rfl, ifT rfl (ifT rfl ⟨_, rfl, _, rfl, _, _, rfl, hD' _ _ ⟨by rw [f1]; rfl, rfl⟩⟩)⟩
          | hours =>
            have f1 := f1 lets
            exact ⟨_, rfl, rfl, _, rfl, ifT rfl (ifT rfl ⟨_, rfl, _, rfl, _, _, rfl, hD' _ _ ⟨by rw [f1]; rfl, rfl⟩⟩)⟩
          | rest =>
            refine ⟨_, rfl, rfl, _, rfl, ifF rfl (or_step ?_)⟩
            cases last with
            | none =>
              have f1 := f1 lets
              exact ⟨_, rfl, rfl, _, rfl, ifT rfl (ifT rfl ⟨_, rfl, _, rfl, _, _, rfl, hD' _ _ ⟨by rw [f1]; rfl, rfl⟩⟩)⟩
            | some l =>
              refine ⟨_, rfl, rfl, _, rfl, ifF rfl ?_⟩
              refine ⟨_, rfl, _, rfl, _, _, rfl, rfl, _, rfl, _, _, rfl, rfl, _, rfl, ?_⟩
              have lets : lt = decide (r < (ys.length : Int) - (l : Int)) := lets
              by_cases c2 : r < (ys.length : Int) - (l : Int)
              · have f1 := f1 (lets.trans (decide_eq_true c2))
                exact ifT (dT c2) ⟨_, rfl, _, rfl, _, _, rfl, hD' _ _ ⟨by rw [f1]; rfl, rfl⟩⟩
              · have f0 := f0 (lets.trans (decide_eq_false c2))
                exact ifF (dF c2) (tnext (hD' _ _ ⟨by rw [f0], rfl⟩))
      rintro σ' H5 ⟨rfl, rfl⟩
      clear lets swd
      refine ⟨_, rfl, .inl ⟨rfl, _, SqL.of hR3⟩, _, rfl, _, rfl, by show 2 ≤ sizeLine; decide, fun p np => ?_⟩
      have sp := same_upd (o := .tup [.int d, .bl sw.1]) np
      refine ⟨R, _, _, rfl, rfl, sp _ _ hR3, small1000 (by omega), ?_⟩
      have hR6 := sp _ _ hR3
      have rwp := snoc (rw3.same sp) upd_same
      have rw6 : Rws S ch g st (upd (upd H5 p (.tup [.int d, .bl sw.1])) R (.lst (ys ++ [.ref p]))) (ys ++ [.ref p]) := fun i v e => by
        obtain ⟨q, a, b⟩ := rwp i v e
        exact ⟨q, a, by rw [upd_ne (fun z => by rw [z, hR6] at b; cases b)]; exact b⟩
      have sm6 : Same H (upd (upd H5 p (.tup [.int d, .bl sw.1])) R (.lst (ys ++ [.ref p]))) := fun b o e => by
        rw [upd_ne (ne_of_none e nR)]
        exact sp _ _ (sm3 _ _ e)
      have c1 := cch.1
      have n2 : (ch.map V.int).length = ch.length := List.length_map _
      have hR7 : (upd (upd H5 p (.tup [.int d, .bl sw.1])) R (.lst (ys ++ [.ref p]))) R = some (.lst (ys ++ [.ref p])) := upd_same
      generalize upd (upd H5 p (.tup [.int d, .bl sw.1])) R (.lst (ys ++ [.ref p])) = H6 at rw6 sm6 hR7 ⊢
      have hC6 := sm6 _ _ hC
      dsimp only
      refine seq_unf ?_
      refine ⟨_, rfl, _, rfl, _, rfl, .inr ⟨sw.1, rfl, _, _, rfl, rfl, .inl ⟨by omega, by omega⟩, _, _, rfl, rfl, ?_⟩⟩
      refine g_asgE ?_
      refine ⟨_, rfl, _, rfl, _, rfl, _, rfl, C, _, rfl, .inl (SqL.of hC6), _, _, rfl, rfl, by rw [n2]; omega, C, _, _, _, rfl, rfl, SqL.of hC6, at_ch c1, _, _, rfl, rfl, ?_⟩
      refine ⟨⟨some (.int (ys.length : Nat)), some (.int lo), some (.int hi'), u15, some (.bl wv), ?_⟩, ys ++ [.ref p], hR7, by rw [List.length_append]; rfl, rw6, sm6⟩
      rw [← sum_on]
      rfl
    · rintro σ H1 ⟨⟨u12, u13, u14, u15, u16, rfl⟩, ys, hR1, ly, rw1, sm⟩
      exact ⟨_, rfl, k R ys H1 hR1 (by omega) rw1 nR sm⟩
end
end W6

namespace W6
open PySem PySem.Spec PyProof.Rows L2 Ru StX LamX
def spChgs (K : PySem.W.Frag) : Sp := fun vs H Q _ => ∃ (x y : Addr) (most : Nat), vs = [.ref x, .int most] ∧ LS K H x y ∧ 1 ≤ most ∧ most ≤ 24 ∧ ∀ p cs H', CH cs → cs.length ≤ most → H' p = some (.lst (cs.map V.int)) → H p = none → p ≠ x → LS K H' x y → Kp x H H' → Q (.ref p) H'
theorem Kp.free {x p : Addr} {H H' : Hp} (k : Kp x H H') (hp : H' p = none) (ne : p ≠ x) : H p = none := by
  cases e : H p with
  | none => rfl
  | some u => rw [k p u ne e] at hp; cases hp
section
variable {P : Program} {w : World} {K : PySem.W.Frag} {mg : Str → Option Value} {base : Heap} {a : Ad}
theorem ok__law_changes (T : Txt K mg a) : FnOk P w K mg base CX0 2 a.f__law_changes a.d__law_changes ["_law_state", "_law_most"] (spChgs K) := by
  have G__law_drawn : FnOk P w K mg base CX0 1 a.f__law_drawn a.d__law_drawn ["_law_state", "_law_count"] (spDrawn K) := ok__law_drawn T
  refine T.F__law_changes.ok sc__law_changes (fun vs H Q E h => ?_) (fun cdv A outer s H vs Q E hr h => ?_)
  · obtain ⟨x, y, most, rfl, _⟩ := h
    rfl
  · obtain ⟨x, y, most, rfl, ls, m1, m24, k⟩ := h
    refine ⟨_, (pss_cons (ps_set (i := 2) sc__law_changes.nd rfl (Or.inr rfl) (pe_ix ix_list (pe_lst (pa_cons pe_int (pa_cons pe_int (pa_cons pe_int pa_nil)))) (pe_call G__law_drawn (hr.mono (by decide)) (by rfl) T.mg__law_drawn T.F__law_drawn.kp (b__law_drawn T) .nil pass0 (pa_cons (pv 0) (pa_cons pe_int pa_nil))) (fun _ _ => rfl)))
      (pss_one (ps_ret (pe_lc (own := [("_law_k", 3)]) (g := gName 3) rfl sc__law_changes.nd (pi_range1 (by rfl) T.z_range (pa_cons (pe_op op_add pe_int (pe_call G__law_drawn (hr.mono (by decide)) (by rfl) T.mg__law_drawn T.F__law_drawn.kp (b__law_drawn T) .nil pass0 (pa_cons (pv 0) (pa_cons (pv 1) pa_nil)))) pa_nil)) (blkOk_by (own := [("_law_k", 3)]) (N := ["_law_state", "_law_most", "_law_high", "_law_k"]) (sc := (defScope s__law_changes)) (by decide +kernel)) (fun _ _ _ _ _ => pg_name (i := 3) sc__law_changes.nd rfl (Or.inl rfl)) (fun _ _ _ _ _ => pts_nil) (fun _ _ _ _ _ => (pe_op op_sub (pe_call G__law_drawn (hr.mono (by decide)) (by rfl) T.mg__law_drawn T.F__law_drawn.kp (b__law_drawn T) .nil pass0 (pa_cons (pv 0) (pa_cons (pe_op op_add (pe_op op_mul pe_int (pv 2)) pe_int) pa_nil))) (pv 2))))))), ?_⟩
    refine ⟨by show 3 ≤ sizeLine; decide, fun L nL => ?_⟩
    have sL := same_upd (o := .lst [.int 3, .int 9, .int 100]) nL
    have oL := ls.off nL
    refine ⟨_, rfl, x, y, 3, rfl, ls.same sL, by decide, by decide, fun r H1 r0 r1 ls1 k1 => ?_⟩
    obtain ⟨e, he, hat⟩ := pickI (es := [3, 9, 100]) r0 r1
    have he : e = 3 ∨ e = 9 ∨ e = 100 := by simpa using he
    have hL := k1 _ _ oL upd_same
    have k1 := (Kp.of sL).trans k1
    refine ⟨L, _, _, _, rfl, rfl, SqL.of hL, hat, ?_⟩
    refine ⟨_, rfl, _, rfl, x, y, (most : Int), rfl, ls1, by omega, by omega, fun r2 H2 r20 r21 ls2 k2 => ?_⟩
    have k2 := k1.trans k2
    refine ⟨_, _, rfl, rfl, 1 + r2, rfl, by omega, by omega, fun D nD => have ny := ls2.fresh nD; lc_range (lo := 0) (n := (1 + r2).toNat) (fun i H' => ∃ rs : List Int, rs.length = i ∧ (∀ r ∈ rs, -100 ≤ r ∧ r ≤ 100) ∧ H' D = some (.lst (rs.map V.int)) ∧ LS K H' x y ∧ Kp x H H') ⟨[], rfl, (fun r hr => by cases hr), upd_same, ls2.same (same_upd nD), k2.trans (Kp.of (same_upd nD))⟩ ?_ ?_⟩
    · rintro i H' hi ⟨rs, rl, rb, hD, ls', k'⟩
      have nx := ls2.off nD
      refine ⟨rfl, _, rfl, _, rfl, _, _, rfl, rfl, .inl ⟨by omega, by omega⟩, _, _, rfl, rfl, x, y, _, rfl, ls', by omega, by omega, fun r3 H3 r30 r31 ls3 k3 => ?_⟩
      have hD3 := k3 _ _ nx hD
      have hDn := k2.free nD nx
      refine ⟨_, rfl, _, _, rfl, rfl, _, hD3, by rw [List.length_map]; exact small1000 (by omega), rs ++ [r3 - e], by rw [List.length_append, rl]; rfl, fun z hz => ?_, by rw [upd_same, List.map_append]; rfl, ls3.updD nx ny, fun b o nb e => ?_⟩
      · rcases List.mem_append.mp hz with hz | hz
        · exact rb z hz
        · rw [List.mem_singleton.mp hz]; omega
      · rw [upd_ne (ne_of_none e hDn)]
        exact k3 _ _ nb (k' _ _ nb e)
    · rintro H3 ⟨rs, rl, rb, hD, ls3, k3⟩
      have nx := ls2.off nD
      have e1 : ((1 : Int) + r2).toNat = rs.length := rl.symm
      exact k D rs H3 ⟨by omega, by omega, rb⟩ (by omega) hD (k2.free nD nx) nx ls3 k3
end
end W6

set_option maxHeartbeats 1000000
namespace W6
open PySem PySem.Spec PyProof.Rows L2 Ru StX LamX
/-- a kind of setting: its class -/
structure KdC (K : PySem.W.Frag) (CS C : Addr) (s : Str) : Prop where
  con : ∃ u, Con K C "KIND" (.str s) u
  cv : ∃ u, ClX.CVal K C (.type "type") "KIND" (.str s) u
  cr : ClX.CRead K C (.type "type")
  cc : PySem.W.findIn K (.ref C) "__class__" = some (some (.builtin "object.__class__"))
  hn : PySem.W.specialIn K (.builtin "object.__class__") "__get__" = some (some (.builtin "getset_descriptor.__get__"))
  tk : PySem.W.takesIn K (.builtin "object.__class__") = some true
  mo : PySem.W.mroIn K C (.type "object") = some true
  kit : PySem.W.kitOne K (.ref C) (.ref CS) = some true
structure KiC (K : PySem.W.Frag) (a : Ad) : Prop where
  p : KdC K a.c_Setting a.c_Setting "plain"
  h : KdC K a.c_Setting a.c_HourSetting "hours"
  r : KdC K a.c_Setting a.c_RestSetting "rest"
  m24 : ∃ u, ClX.CVal K a.c_HourSetting (.type "type") "MAX_LENGTH" (.int 24) u
def Kd.cls (a : Ad) : Kd → Addr
  | .plain => a.c_Setting
  | .hours => a.c_HourSetting
  | .rest => a.c_RestSetting
theorem KiC.of {K : PySem.W.Frag} {a : Ad} (h : KiC K a) : ∀ kd : Kd, KdC K a.c_Setting (kd.cls a) kd.str
  | .plain => h.p
  | .hours => h.h
  | .rest => h.r
def AtA (a : Ad) (H : Hp) (z : Addr) (S : Th.Sg) : Prop := AtP a H z S ∨ AtH a H z S ∨ AtR a H z S
theorem KAt.atA {a : Ad} {H : Hp} {z : Addr} {L : Nat} {ps : List (Int × Int × Int)} {r : Int} (pl : ps.length ≤ 1000) : ∀ {kd : Kd}, KAt a H z L ps r kd → AtA a H z (kd.S L ps r)
  | .plain, h => .inl ⟨_, _, h, rfl⟩
  | .hours, h => .inr (.inl ⟨L, ps, h, pl, rfl⟩)
  | .rest, h => .inr (.inr ⟨_, _, r, h, rfl⟩)
theorem KAt.ins {a : Ad} {H : Hp} {z : Addr} {L : Nat} {ps : List (Int × Int × Int)} {r : Int} : ∀ {kd : Kd}, KAt a H z L ps r kd → ∃ dx fs, H z = some (.ins (kd.cls a) dx fs) ∧ fs.lookup ("KIND" : Str) = none
  | .plain, ⟨dx, h⟩ => ⟨dx, _, h, rfl⟩
  | .hours, ⟨_, _, dx, t, qs, h, _⟩ => ⟨dx, _, h, rfl⟩
  | .rest, ⟨dx, h⟩ => ⟨dx, _, h, rfl⟩
theorem KAt.kp {K : PySem.W.Frag} {a : Ad} {H H' : Hp} {z x c : Addr} {L : Nat} {ps : List (Int × Int × Int)} {r : Int} (ls : LS K H x c) (k : Kp x H H') : ∀ {kd : Kd}, KAt a H z L ps r kd → KAt a H' z L ps r kd
  | .plain, ⟨dx, h⟩ => ⟨dx, k.get ls h (fun _ z => nomatch z)⟩
  | .hours, ⟨l, f, dx, t, qs, h1, h2, h3⟩ => ⟨l, f, dx, t, qs, k.get ls h1 (fun _ z => nomatch z), k.get ls h2 (fun _ z => nomatch z), h3.kp ls k⟩
  | .rest, ⟨dx, h⟩ => ⟨dx, k.get ls h (fun _ z => nomatch z)⟩
theorem WAt.kp {K : PySem.W.Frag} {a : Ad} {x y z : Addr} {cs : List Int} {H H' : Hp} (h : WAt a H z cs) (ls : LS K H x y) (k : Kp x H H') : WAt a H' z cs := let ⟨dx, t, h1, h2⟩ := h; ⟨dx, t, k.get ls h1 (fun _ z => nomatch z), k.get ls h2 (fun _ z => nomatch z)⟩
section
variable {P : Program} {w : World} {K : PySem.W.Frag} {mg : Str → Option Value} {base : Heap} {a : Ad}
theorem watchA_ok (T : Txt K mg a) (SW : StC P K mg a) : GFnY P w K mg base 4 a.f_watch a.d_watch ["weather", "gain", "setting", "start", "count"] (spWatch a (AtA a)) := by
  have g1 := ok_watch (base := base) (w := w) T SW (setc_plain T)
  have g2 := ok_watch (base := base) (w := w) T SW (setc_hours T SW)
  have g3 := ok_watch (base := base) (w := w) T SW (setc_rest T SW)
  refine ⟨fun vs H Yd Qd E h => ?_, fun A outer s H args us vs Yd Qd E hr e0 hb r h => ?_⟩
  · obtain ⟨ww, z, ch, g, st, n, S, rfl, _⟩ := h
    rfl
  · obtain ⟨ww, z, ch, g, st, n, S, e, h1, h2, h3, h4, h5, h6, h7, at_, h8, h9⟩ := h
    rcases at_ with at_ | at_ | at_
    · exact g1.run A outer s H args us vs Yd Qd E hr e0 hb r ⟨ww, z, ch, g, st, n, S, e, h1, h2, h3, h4, h5, h6, h7, at_, h8, h9⟩
    · exact g2.run A outer s H args us vs Yd Qd E hr e0 hb r ⟨ww, z, ch, g, st, n, S, e, h1, h2, h3, h4, h5, h6, h7, at_, h8, h9⟩
    · exact g3.run A outer s H args us vs Yd Qd E hr e0 hb r ⟨ww, z, ch, g, st, n, S, e, h1, h2, h3, h4, h5, h6, h7, at_, h8, h9⟩
theorem totalsA_ok (T : Txt K mg a) (SW : StC P K mg a) : FnOk P w K mg base CX0 8 a.f_totals a.d_totals ["weather", "gain", "setting", "start", "count"] (spTotals a (AtA a)) := by
  have g1 : FnOk P w K mg base CX0 8 a.f_totals a.d_totals ["weather", "gain", "setting", "start", "count"] (spTotals a (AtP a)) := ok_totals T SW (setc_plain T)
  have g2 : FnOk P w K mg base CX0 8 a.f_totals a.d_totals ["weather", "gain", "setting", "start", "count"] (spTotals a (AtH a)) := ok_totals T SW (setc_hours T SW)
  have g3 : FnOk P w K mg base CX0 8 a.f_totals a.d_totals ["weather", "gain", "setting", "start", "count"] (spTotals a (AtR a)) := ok_totals T SW (setc_rest T SW)
  refine ⟨fun vs H Q E h => ?_, fun A outer s H args us vs Q E hr e0 hb r h => ?_⟩
  · obtain ⟨ww, z, ch, g, st, n, S, rfl, _⟩ := h
    rfl
  · obtain ⟨ww, z, ch, g, st, n, S, e, h1, h2, h3, h4, h5, h6, h7, at_, h8⟩ := h
    rcases at_ with at_ | at_ | at_
    · exact g1.run A outer s H args us vs Q E hr e0 hb r ⟨ww, z, ch, g, st, n, S, e, h1, h2, h3, h4, h5, h6, h7, at_, h8⟩
    · exact g2.run A outer s H args us vs Q E hr e0 hb r ⟨ww, z, ch, g, st, n, S, e, h1, h2, h3, h4, h5, h6, h7, at_, h8⟩
    · exact g3.run A outer s H args us vs Q E hr e0 hb r ⟨ww, z, ch, g, st, n, S, e, h1, h2, h3, h4, h5, h6, h7, at_, h8⟩
end
theorem methV_of {X : Cx} {i j t : Nat} {a : Ad} {σ : L2.St} {H : Hp} {Q : VK} {z : Addr} {C f1 f2 : Addr} {d1 d2 : FuncData} {At : Hp → Addr → Th.Sg → Prop} {S : Th.Sg} (SC : SetC X.prog X.w X.K X.mg X.base C f1 f2 d1 d2 At) (hi : σ[i]? = some (some (.ref z))) (hj : σ[j]? = some (some (.int (t : Nat)))) (at_ : At H z S) (k : ∀ p H', Same H H' → H' p = some (.tup [.int (S.thr t).1, .int (S.thr t).2]) → Q (.ref p) H') : tMethV X 2 "thresholds" (tVar i) (tCons (tVar j) tNil) σ H Q := by
  obtain ⟨dx, fs, hz, l1, _⟩ := SC.ins _ _ _ at_
  exact ⟨C, f1, d1, _, _, SC.cl, SC.mt, SC.gt, SC.bt, _, hi, z, dx, fs, rfl, hz, l1, _, hj, z, t, S, rfl, at_, k⟩
theorem methV_kd {X : Cx} {i j t L : Nat} {a : Ad} {σ : L2.St} {H : Hp} {Q : VK} {z : Addr} {ps : List (Int × Int × Int)} {r : Int} (T : Txt X.K X.mg a) (SW : StC X.prog X.K X.mg a) (pl : ps.length ≤ 1000) (hi : σ[i]? = some (some (.ref z))) (hj : σ[j]? = some (some (.int (t : Nat)))) : ∀ {kd : Kd}, KAt a H z L ps r kd → (∀ p H', Same H H' → H' p = some (.tup [.int ((kd.S L ps r).thr t).1, .int ((kd.S L ps r).thr t).2]) → Q (.ref p) H') → tMethV X 2 "thresholds" (tVar i) (tCons (tVar j) tNil) σ H Q
  | .plain, h, k => methV_of (a := a) (setc_plain T) hi hj ⟨_, _, h, rfl⟩ k
  | .hours, h, k => methV_of (a := a) (setc_hours T SW) hi hj ⟨L, ps, h, pl, rfl⟩ k
  | .rest, h, k => methV_of (a := a) (setc_rest T SW) hi hj ⟨_, _, r, h, rfl⟩ k
theorem drawn_of {K : PySem.W.Frag} {σ : L2.St} {H : Hp} {x c : Addr} {te : TE} {Q : VK} (m n : Int) (hv : σ[1]? = some (some (.ref x))) (ls : LS K H x c) (m0 : 0 < m ∧ m < 18446744073709551616) (n0 : 0 < n ∧ n < 18446744073709551616) (hte : ∀ Q7 : VK, (∀ L H', H L = none → H' = upd H L (.lst [.int m, .int n]) → Q7 (.ref L) H') → te σ H Q7)
    (k : ∀ r H', 0 ≤ r → (r < m ∨ r < n) → LS K H' x c → Kp x H H' → Q (.int r) H') : tCall (spDrawn K) [] E0 (tCons (tVar 1) (tCons (tOp (rIxL K) te (tCall (spDrawn K) [] E0 (tCons (tVar 1) (tCons (tC (.int 2)) tNil)))) tNil)) σ H Q := by
  refine ⟨_, hv, hte _ fun L H' nL eH => ?_⟩
  subst eH
  have sL := same_upd (o := .lst [.int m, .int n]) nL
  have oL := ls.off nL
  refine ⟨_, hv, x, c, 2, rfl, ls.same sL, by decide, by decide, fun r H4 r0 r1 ls4 k4 => ?_⟩
  obtain ⟨e, he, hat⟩ := pickI (es := [m, n]) r0 r1
  have he : e = m ∨ e = n := by simpa using he
  refine ⟨L, _, _, _, rfl, rfl, SqL.of (k4 _ _ oL upd_same), hat, x, c, e, rfl, ls4, by omega, by omega, fun r2 H5 a0 a1 ls5 k5 => ?_⟩
  exact k r2 H5 a0 (by rcases he with rfl | rfl; exact .inl a1; exact .inr a1) ls5 (((Kp.of sL).trans k4).trans k5)
section
variable {K : PySem.W.Frag} {H : Hp} {S : Th.Sg} {ch : List Int} {g st : Int}
theorem dp_all : ∀ {xs : List V} {ds : List PyData}, xs.length = ds.length → (∀ (i : Nat) (x : V) (d : PyData), xs[i]? = some x → ds[i]? = some d → Dp K H x d) → DpAll K H xs ds
  | [], [], _, _ => .nil
  | x :: xs, d :: ds, l, h => .cons (h 0 x d rfl rfl) (dp_all (by simpa using l) fun i x d a b => h (i + 1) x d a b)
def rowD (S : Th.Sg) (ch : List Int) (g st : Int) (n : Nat) : List PyData := (List.range n).map fun i => .tuple [.int (S.wd ch g st i), .bool (S.wo ch g st i)]
theorem dp_rows {ys : List V} (h : Rws S ch g st H ys) : DpAll K H ys (rowD S ch g st ys.length) := dp_all (by simp [rowD]) fun i x d e1 e2 => by
  obtain ⟨q, rfl, hq⟩ := h i x e1
  have hi := (List.getElem?_eq_some_iff.mp e1).1
  unfold rowD at e2
  rw [List.getElem?_map, List.getElem?_range hi] at e2
  cases e2
  exact .tup (SqT.of hq) (.cons (.int _) (.cons (.bl _) .nil))
theorem sh_rows {n : Nat} : ∀ d ∈ rowD S ch g st n, Sh 1 d := fun d m => by
  obtain ⟨i, _, rfl⟩ := List.mem_map.mp m
  exact Sh.tup (sh_cons Sh.int (sh_cons Sh.bool sh_nil))
theorem ne_nil {R E : Addr} {ys : List V} {Q : VK} (hR : H R = some (.lst ys)) (h : Rws S ch g st H ys) (hE : H E = some (.lst [])) (k : Q (.bl (decide (ys.length ≠ 0))) H) : rNeD K (.ref R) (.ref E) H Q := by
  refine ⟨_, _, .lst (SqL.of hR) (dp_rows h), .lst (SqL.of hE) .nil, (Sh.list (n := 1) sh_rows).shaped, (Sh.list (n := 1) (fun d m => by cases m)).shaped, ?_⟩
  cases ys with
  | nil => exact k
  | cons y r =>
    have e : rowD S ch g st (y :: r).length = .tuple [.int (S.wd ch g st 0), .bool (S.wo ch g st 0)] :: ((List.range r.length).map Nat.succ).map fun i => .tuple [.int (S.wd ch g st i), .bool (S.wo ch g st i)] := by
      unfold rowD
      rw [List.length_cons, List.range_succ_eq_map, List.map_cons]
    rw [e]
    exact k
theorem rows_at {ys zs : List V} {n : Nat} (l1 : ys.length = n) (l2 : zs.length = n) (n1 : n ≤ 1000) (h1 : Rws S ch g st H ys) (h2 : Rws S ch g st H zs) : Sq1 R1 H ys zs := ⟨by omega, by omega, fun i u v e1 e2 => by
  obtain ⟨p, rfl, hp⟩ := h1 i u e1
  obtain ⟨q, rfl, hq⟩ := h2 i v e2
  exact .inr ⟨p, q, _, _, rfl, rfl, Sq1.cons (Fl.int _) (Sq1.cons (Fl.bl _) Sq1.nil (by decide)) (by show 1 < 1000000; decide), .inr ⟨hp, hq⟩⟩⟩
/-- the flags: before the first tick, in each tick -/
def flL (S : Th.Sg) (ch : List Int) (g st : Int) (n : Nat) : List Bool := (List.range n).map fun k => (S.st ch g st k).on
theorem flL_at {n k : Nat} (h : k < n) : ((flL S ch g st n).map V.bl)[k]? = some (.bl (S.st ch g st k).on) := by
  unfold flL
  rw [List.getElem?_map, List.getElem?_map, List.getElem?_range h]; rfl
theorem flL_cons {n : Nat} : (flL S ch g st (n + 1)).map V.bl = .bl false :: ((List.range n).map fun k => S.wo ch g st k).map V.bl := by
  unfold flL
  rw [List.range_succ_eq_map, List.map_cons, List.map_cons, List.map_map, List.map_map, List.map_map]
  rfl
theorem flL_succ {n : Nat} : (flL S ch g st (n + 1)).map V.bl = (flL S ch g st n).map V.bl ++ [.bl (S.st ch g st n).on] := by
  unfold flL
  rw [List.range_succ, List.map_append, List.map_append]; rfl
theorem fl_count : ∀ {n : Nat}, ((((flL S ch g st (n + 1)).map V.bl).countP fun z => eqV z (.bl true) : Nat) : Int) = S.hc ch g st n
  | 0 => rfl
  | n + 1 => by
    rw [flL_succ, List.countP_append, Int.natCast_add, fl_count (n := n)]
    show _ = S.hc ch g st n + (if S.wo ch g st n = true then 1 else 0)
    have e : (S.st ch g st (n + 1)).on = S.wo ch g st n := rfl
    rw [e]
    cases S.wo ch g st n <;> rfl
theorem fl_flat {bs : List Bool} : (bs.map V.bl).all flatV = true := List.all_eq_true.mpr fun v hv => by
  obtain ⟨b, _, rfl⟩ := List.mem_map.mp hv
  rfl
def wdL (S : Th.Sg) (ch : List Int) (g st : Int) (n : Nat) : List Int := (List.range n).map fun k => S.wd ch g st k
theorem least_spec : ∀ {n : Nat}, 1 ≤ n → ∃ m, S.least ch g st n = some m ∧ m ∈ wdL S ch g st n ∧ ∀ y ∈ wdL S ch g st n, m ≤ y
  | 0, h => absurd h (by decide)
  | 1, _ => ⟨S.wd ch g st 0, rfl, List.mem_singleton.mpr rfl, fun y hy => by rw [List.mem_singleton.mp hy]; exact Int.le_refl _⟩
  | n + 2, _ => by
    obtain ⟨m, e, hm, hl⟩ := least_spec (n := n + 1) (by omega)
    have e2 : wdL S ch g st (n + 2) = wdL S ch g st (n + 1) ++ [S.wd ch g st (n + 1)] := by unfold wdL; rw [List.range_succ (n := n + 1), List.map_append]; rfl
    have e3 : S.least ch g st (n + 2) = some (if S.wd ch g st (n + 1) < m then S.wd ch g st (n + 1) else m) := by
      show (match S.least ch g st (n + 1) with | none => _ | some m => _) = _
      rw [e]
    refine ⟨_, e3, ?_, fun y hy => ?_⟩
    · rw [e2]
      split
      · exact List.mem_append_right _ (List.mem_singleton.mpr rfl)
      · exact List.mem_append_left _ hm
    · rw [e2] at hy
      rcases List.mem_append.mp hy with hy | hy
      · have := hl y hy
        split <;> omega
      · rw [List.mem_singleton.mp hy]
        split <;> omega
theorem min_uniq {xs : List Int} {m k : Int} (h1 : m ∈ xs) (h2 : ∀ y ∈ xs, m ≤ y) (g1 : k ∈ xs) (g2 : ∀ y ∈ xs, k ≤ y) : m = k := Int.le_antisymm (h2 k g1) (g2 m h1)
end
theorem watch_rowsA {a : Ad} {H : Hp} {Q : VK} {E : XK} {ww s : Addr} {ch : List Int} {g st : Int} {n : Nat} {S : Th.Sg} (cch : CH ch) (g1 : 1 ≤ g) (g2 : g ≤ 200) (st1 : -1000000000000 ≤ st) (st2 : st ≤ 1000000000000) (hw : WAt a H ww ch) (at_ : AtA a H s S) (hn : n ≤ 10000) (k : ∀ H' D ys, Same H H' → ys.length = n → Rws S ch g st H' ys → H' D = none → Q (.ref D) (upd H' D (.lst ys))) :
    ∃ Yd Qd, spWatch a (AtA a) ([.ref ww, .int g, .ref s, .int st, .int n] ++ []) H Yd Qd E ∧ ∃ Lk : List V → List V → Prop, Lk [] [] ∧ (∀ ys x zs H', ys.length = zs.length → Yd (ys ++ [x]) H' → Lk ys zs → ∃ z, (fun (v : V) (_ : Hp) z => z = v) x H' z ∧ Lk (ys ++ [x]) (zs ++ [z])) ∧ ∀ ys zs H' D, ys.length = zs.length → Qd ys H' → Lk ys zs → H' D = none → Q (.ref D) (upd H' D (.lst zs)) :=
  ⟨fun _ _ => True, fun ys H' => ys.length = n ∧ Same H H' ∧ Rws S ch g st H' ys, ⟨ww, s, ch, g, st, n, S, rfl, hw, cch, g1, g2, st1, st2, hn, at_, fun _ _ _ _ _ => trivial, fun ys H' l r sm => ⟨l, sm, r⟩⟩,
    fun ys zs => zs = ys, rfl, fun ys x zs H' _ _ e => ⟨x, rfl, by rw [e]⟩, fun ys zs H' D _ q e nD => by subst e; exact k H' D _ q.2.1 q.1 q.2.2 nD⟩
theorem clsOf {K : PySem.W.Frag} {mg : Str → Option Value} {a : Ad} (T : Txt K mg a) : ∀ kd : Kd, Cls K (kd.cls a)
  | .plain => T.cl_Setting
  | .hours => T.cl_HourSetting
  | .rest => T.cl_RestSetting
theorem lstV_fl : ∀ o : Option Int, Fl (lstV o) (lstV o)
  | none => Fl.non
  | some m => Fl.int m
theorem pow9 : (10 : Int) ^ (9 : Int).toNat = 1000000000 := by decide
end W6

set_option maxHeartbeats 4000000
namespace W6
open PySem PySem.Spec PyProof.Rows L2 Ru StX LamX
def lamT (Pf : Addr) : List (Addr × Str) := [(Pf, (("_law_refused" : Str) ++ ".<locals>.") ++ "<lambda>")]
def spLawT (K : PySem.W.Frag) (Pf : Addr) : Sp := fun vs H Q _ => ∃ (c : Addr) (ns : List Int), vs = [.ref c] ∧ SqL K H c (ns.map V.int) ∧ ns.length ≤ 63 ∧ Tabs (lamT Pf) H ∧ ∀ H', Q (.bl true) H'
theorem pickK {r : Int} (h0 : 0 ≤ r) (h1 : r < 3) : ∃ kd : Kd, atI [V.str "plain", V.str "hours", V.str "rest"] r = some (V.str kd.str) := by
  have h : r = 0 ∨ r = 1 ∨ r = 2 := by omega
  rcases h with rfl | rfl | rfl
  · exact ⟨.plain, rfl⟩
  · exact ⟨.hours, rfl⟩
  · exact ⟨.rest, rfl⟩
/-- what the law keeps in a turn -/
structure Wk (K : PySem.W.Frag) (a : Ad) (x c Pf U ww z R : Addr) (ch : List Int) (qs : List Addr) (ps : List (Int × Int × Int)) (L : Nat) (r g st : Int) (kd : Kd) (n : Nat) (H : Hp) : Prop where
  ls : LS K H x c
  tb : Tabs (lamT Pf) H
  nU : U ≠ x
  hU : H U = some (.lst (qs.map V.ref))
  pa : PartsAt H qs ps
  wt : WAt a H ww ch
  kz : KAt a H z L ps r kd
  nR : R ≠ x
  rows : ∃ ys, H R = some (.lst ys) ∧ ys.length = n ∧ Rws (kd.S L ps r) ch g st H ys
section
variable {K : PySem.W.Frag} {a : Ad} {x c Pf U ww z R : Addr} {ch : List Int} {qs : List Addr} {ps : List (Int × Int × Int)} {L : Nat} {r g st : Int} {kd : Kd} {n : Nat} {H H' : Hp}
theorem Wk.same (h : Wk K a x c Pf U ww z R ch qs ps L r g st kd n H) (s : Same H H') : Wk K a x c Pf U ww z R ch qs ps L r g st kd n H' :=
  ⟨h.ls.same s, h.tb.ext s, h.nU, s _ _ h.hU, h.pa.same s, h.wt.same s, h.kz.same s, h.nR, let ⟨ys, a, b, c⟩ := h.rows; ⟨ys, s _ _ a, b, c.same s⟩⟩
theorem Wk.kp (h : Wk K a x c Pf U ww z R ch qs ps L r g st kd n H) (ls : LS K H' x c) (k : Kp x H H') : Wk K a x c Pf U ww z R ch qs ps L r g st kd n H' :=
  ⟨ls, tabs_kp h.ls k h.tb, h.nU, k _ _ h.nU h.hU, h.pa.kp h.ls k, h.wt.kp h.ls k, h.kz.kp h.ls k, h.nR, let ⟨ys, a, b, c⟩ := h.rows; ⟨ys, k _ _ h.nR a, b, fun i v e => let ⟨q, a, b⟩ := c i v e; ⟨q, a, k.get h.ls b (fun _ z => nomatch z)⟩⟩⟩
end
section
variable {P : Program} {w : World} {K : PySem.W.Frag} {mg : Str → Option Value} {base : Heap} {a : Ad} {er : Er2}
theorem ok_law {cf Pf : Addr} (T : Txt K mg a) (ER : E2T P K mg er) (WM : WMu K a) (SW : StC P K mg a) (KI : KiC K a) (NS : PySem.W.subIn K (.ref er.n) (.type "StopIteration") = some false) (hcf : a.d__law_refused.code = .ref cf) (TBf : TabB base mg cf Pf) : FnOk P w K mg base CX0 16 a.f_law a.d_law ["_law_script"] (spLawT K Pf) := by
  have G__law_start : FnOk P w K mg base CX0 1 a.f__law_start a.d__law_start ["_law_script"] (spStart K) := ok__law_start T
  have G__law_drawn : FnOk P w K mg base CX0 1 a.f__law_drawn a.d__law_drawn ["_law_state", "_law_count"] (spDrawn K) := ok__law_drawn T
  have G__law_same := same2 (P := P) (w := w) (base := base) T
  have G__law_changes : FnOk P w K mg base CX0 2 a.f__law_changes a.d__law_changes ["_law_state", "_law_most"] (spChgs K) := ok__law_changes T
  have G__law_weather : FnOk P w K mg base CX0 5 a.f__law_weather a.d__law_weather ["_law_changes_here"] (spWthr a) := ok__law_weather T WM
  have G__law_parts : FnOk P w K mg base CX0 2 a.f__law_parts a.d__law_parts ["_law_state"] (spParts K) := ok__law_parts T
  have G__law_setting : FnOk P w K mg base CX0 5 a.f__law_setting a.d__law_setting ["_law_word", "_law_length", "_law_parts_here", "_law_pause"] (spSetg K a) := ok__law_setting T SW
  have G__law_watched : FnOk P w K mg base CX0 1 a.f__law_watched a.d__law_watched ["_law_word", "_law_length", "_law_parts_here", "_law_pause", "_law_changes_here", "_law_gain", "_law_start_here", "_law_count"] (spWd K) := ok__law_watched T
  have G__law_refused := ok__law_refused (P := P) (w := w) (base := base) (Tb := lamT Pf) T SW ER NS hcf TBf (List.mem_singleton.mpr rfl) (fun p hp _ => by rw [List.mem_singleton.mp hp])
  have G_watch := watchA_ok (base := base) (w := w) T SW
  have G_totals : FnOk P w K mg base CX0 8 a.f_totals a.d_totals ["weather", "gain", "setting", "start", "count"] (spTotals a (AtA a)) := totalsA_ok T SW
  refine T.F_law.ok sc_law (fun vs H Q E h => ?_) (fun cdv A outer s H vs Q E hr h => ?_)
  · obtain ⟨c, ns, rfl, _⟩ := h
    rfl
  · obtain ⟨c, ns, rfl, hS, hl, hT, k⟩ := h
    refine ⟨_, (pss_cons (ps_set (i := 1) sc_law.nd rfl (Or.inl rfl) (pe_call G__law_start (hr.mono (by decide)) (by rfl) T.mg__law_start T.F__law_start.kp (b__law_start T) .nil pass0 (pa_cons (pv 0) pa_nil)))
      (pss_cons (ps_if (pt_cmpR (op_neD hr.units) (pe_tup (pa_cons (ClX.pe_cval (pe_glob (v := .ref a.c_Setting) (by rfl) T.mg_Setting rfl) rfl) (pa_cons (ClX.pe_cval (pe_glob (v := .ref a.c_HourSetting) (by rfl) T.mg_HourSetting rfl) rfl) (pa_cons (ClX.pe_cval (pe_glob (v := .ref a.c_RestSetting) (by rfl) T.mg_RestSetting rfl) rfl) (pa_cons (ClX.pe_cval (pe_glob (v := .ref a.c_HourSetting) (by rfl) T.mg_HourSetting rfl) rfl) pa_nil))))) (pe_tup (pa_cons pe_str (pa_cons pe_str (pa_cons pe_str (pa_cons pe_int pa_nil))))) (nomark _)) (pss_one (ps_ret pe_bl)) pss_nil)
      (pss_cons (ps_for PassesOwn.never rfl (pi_range1 (by rfl) T.z_range (pa_cons pe_int pa_nil)) (pg_name (i := 2) sc_law.nd rfl (Or.inl rfl))
        (pss_cons (ps_par (i := 3) (j := 4) (by rfl) sc_law.nd rfl rfl (by decide) rfl rfl (pa_cons (pe_call G__law_changes (hr.mono (by decide)) (by rfl) T.mg__law_changes T.F__law_changes.kp (b__law_changes T) .nil pass0 (pa_cons (pv 1) (pa_cons pe_int pa_nil))) (pa_cons (pe_ix (show IxR _ (rIxL K) from ix_list) (pe_lst (pa_cons pe_str (pa_cons pe_str (pa_cons pe_str pa_nil)))) (pe_call G__law_drawn (hr.mono (by decide)) (by rfl) T.mg__law_drawn T.F__law_drawn.kp (b__law_drawn T) .nil pass0 (pa_cons (pv 1) (pa_cons pe_int pa_nil))) (fun _ _ => rfl)) pa_nil)) (by rfl))
      (pss_cons (ps_asg (pe_call G__law_parts (hr.mono (by decide)) (by rfl) T.mg__law_parts T.F__law_parts.kp (b__law_parts T) .nil pass0 (pa_cons (pv 1) pa_nil)) (pg_tup rfl (pgs_cons (pg_name (i := 5) sc_law.nd rfl (Or.inr rfl)) (pgs_cons (pg_name (i := 6) sc_law.nd rfl (Or.inl rfl)) pgs_nil))))
      (pss_cons (ps_set (i := 7) sc_law.nd rfl (Or.inl rfl) (pe_call G__law_drawn (hr.mono (by decide)) (by rfl) T.mg__law_drawn T.F__law_drawn.kp (b__law_drawn T) .nil pass0 (pa_cons (pv 1) (pa_cons (pe_ix (show IxR _ (rIxL K) from ix_list) (pe_lst (pa_cons pe_int (pa_cons pe_int pa_nil))) (pe_call G__law_drawn (hr.mono (by decide)) (by rfl) T.mg__law_drawn T.F__law_drawn.kp (b__law_drawn T) .nil pass0 (pa_cons (pv 1) (pa_cons pe_int pa_nil))) (fun _ _ => rfl)) pa_nil))))
      (pss_cons (ps_set (i := 8) sc_law.nd rfl (Or.inl rfl) (pe_op op_add pe_int (pe_call G__law_drawn (hr.mono (by decide)) (by rfl) T.mg__law_drawn T.F__law_drawn.kp (b__law_drawn T) .nil pass0 (pa_cons (pv 1) (pa_cons (pe_ix (show IxR _ (rIxL K) from ix_list) (pe_lst (pa_cons pe_int (pa_cons pe_int pa_nil))) (pe_call G__law_drawn (hr.mono (by decide)) (by rfl) T.mg__law_drawn T.F__law_drawn.kp (b__law_drawn T) .nil pass0 (pa_cons (pv 1) (pa_cons pe_int pa_nil))) (fun _ _ => rfl)) pa_nil)))))
      (pss_cons (ps_par (i := 9) (j := 10) (by rfl) sc_law.nd rfl rfl (by decide) rfl rfl (pa_cons (pe_op op_sub (pe_call G__law_drawn (hr.mono (by decide)) (by rfl) T.mg__law_drawn T.F__law_drawn.kp (b__law_drawn T) .nil pass0 (pa_cons (pv 1) (pa_cons pe_int pa_nil))) pe_int) (pa_cons (pe_call G__law_drawn (hr.mono (by decide)) (by rfl) T.mg__law_drawn T.F__law_drawn.kp (b__law_drawn T) .nil pass0 (pa_cons (pv 1) (pa_cons pe_int pa_nil))) pa_nil)) (by rfl))
      (pss_cons (ps_par (i := 11) (j := 12) (by rfl) sc_law.nd rfl rfl (by decide) rfl rfl (pa_cons (pe_call G__law_weather (hr.mono (by decide)) (by rfl) T.mg__law_weather T.F__law_weather.kp (b__law_weather T) .nil pass0 (pa_cons (pv 3) pa_nil)) (pa_cons (pe_call G__law_setting (hr.mono (by decide)) (by rfl) T.mg__law_setting T.F__law_setting.kp (b__law_setting T) .nil pass0 (pa_cons (pv 4) (pa_cons (pv 5) (pa_cons (pv 6) (pa_cons (pv 7) pa_nil))))) pa_nil)) (by rfl))
      (pss_cons (ps_set (i := 13) sc_law.nd rfl (Or.inl rfl) (pe_call G__law_watched (hr.mono (by decide)) (by rfl) T.mg__law_watched T.F__law_watched.kp (b__law_watched T) .nil pass0 (pa_cons (pv 4) (pa_cons (pv 5) (pa_cons (pv 6) (pa_cons (pv 7) (pa_cons (pv 3) (pa_cons (pv 8) (pa_cons (pv 9) (pa_cons (pv 10) pa_nil))))))))))
      (pss_cons (ps_if (pt_not (pt_val (pe_call G__law_same (hr.mono (by decide)) (by rfl) T.mg__law_same T.F__law_same.kp (b__law_same T) .nil pass0 (pa_cons (pe_lcY (own := [("_law_row", 14)]) (hr.mono (by decide)) (pgen_callY G_watch (hr.mono (by decide)) (by rfl) T.mg_watch T.F_watch.kp (b_watch T) .nil (pa_cons (pv 11) (pa_cons (pv 8) (pa_cons (pv 12) (pa_cons (pv 9) (pa_cons (pv 10) pa_nil)))))) (blkOk_by (own := [("_law_row", 14)]) (N := ["_law_script", "_law_state", "_law_turn", "_law_changes_here", "_law_word", "_law_length", "_law_parts_here", "_law_pause", "_law_gain", "_law_start_here", "_law_count", "_law_sky", "_law_setting_here", "_law_rows", "_law_row", "_law_flags", "_law_switched", "_law_k", "_law_least", "_law_tick", "_law_expected", "_law_part"]) (sc := (defScope s_law)) (by decide +kernel)) rfl eltY_name) (pa_cons (pv 13) pa_nil))))) (pss_one (ps_ret pe_bl)) pss_nil)
      (pss_cons (ps_set (i := 15) sc_law.nd rfl (Or.inr rfl) (pe_op op_cat (pe_lst (pa_cons pe_bl pa_nil)) (pe_lc (own := [("_law_row", 14)]) (g := gName 14) rfl sc_law.nd (pi_list (pv 13)) (blkOk_by (own := [("_law_row", 14)]) (N := ["_law_script", "_law_state", "_law_turn", "_law_changes_here", "_law_word", "_law_length", "_law_parts_here", "_law_pause", "_law_gain", "_law_start_here", "_law_count", "_law_sky", "_law_setting_here", "_law_rows", "_law_row", "_law_flags", "_law_switched", "_law_k", "_law_least", "_law_tick", "_law_expected", "_law_part"]) (sc := (defScope s_law)) (by decide +kernel)) (fun _ _ _ _ _ => pg_name (i := 14) sc_law.nd rfl (Or.inl rfl)) (fun _ _ _ _ _ => pts_nil) (fun _ _ _ _ _ => (pe_ix (show IxR _ (rIxT K) from ix_tup) (pv 14) pe_int (fun _ _ => rfl))))))
      (pss_cons (ps_set (i := 16) sc_law.nd rfl (Or.inl rfl) (pe_callB call_len_seq (by rfl) T.z_len PySem.boot_len (pa_cons (pe_lc (own := [("_law_k", 17)]) (g := gName 17) rfl sc_law.nd (pi_range1 (by rfl) T.z_range (pa_cons (pv 10) pa_nil)) (blkOk_by (own := [("_law_k", 17)]) (N := ["_law_script", "_law_state", "_law_turn", "_law_changes_here", "_law_word", "_law_length", "_law_parts_here", "_law_pause", "_law_gain", "_law_start_here", "_law_count", "_law_sky", "_law_setting_here", "_law_rows", "_law_row", "_law_flags", "_law_switched", "_law_k", "_law_least", "_law_tick", "_law_expected", "_law_part"]) (sc := (defScope s_law)) (by decide +kernel)) (fun _ _ _ _ _ => pg_name (i := 17) sc_law.nd rfl (Or.inl rfl)) (fun _ _ _ _ _ => pts_one (pt_cmpR op_ne (pe_ix (show IxR _ (rIxL K) from ix_list) (pv 15) (pv 17) (fun _ _ => rfl)) (pe_ix (show IxR _ (rIxL K) from ix_list) (pv 15) (pe_op op_add (pv 17) pe_int) (fun _ _ => rfl)) (nomark _))) (fun _ _ _ _ _ => (pv 17))) pa_nil)))
      (pss_cons (ps_set (i := 18) sc_law.nd rfl (Or.inl rfl) (pe_ifExp (pt_cmpR (op_neD hr.units) (pv 13) (pe_lst pa_nil) (nomark _)) (pe_callB (cr_min rfl) (by rfl) T.z_min (by decide +kernel) (pa_cons (pe_lc (own := [("_law_row", 14)]) (g := gName 14) rfl sc_law.nd (pi_list (pv 13)) (blkOk_by (own := [("_law_row", 14)]) (N := ["_law_script", "_law_state", "_law_turn", "_law_changes_here", "_law_word", "_law_length", "_law_parts_here", "_law_pause", "_law_gain", "_law_start_here", "_law_count", "_law_sky", "_law_setting_here", "_law_rows", "_law_row", "_law_flags", "_law_switched", "_law_k", "_law_least", "_law_tick", "_law_expected", "_law_part"]) (sc := (defScope s_law)) (by decide +kernel)) (fun _ _ _ _ _ => pg_name (i := 14) sc_law.nd rfl (Or.inl rfl)) (fun _ _ _ _ _ => pts_nil) (fun _ _ _ _ _ => (pe_ix (show IxR _ (rIxT K) from ix_tup) (pv 14) pe_int (fun _ _ => rfl)))) pa_nil)) pe_non))
      (pss_cons (ps_if (pt_not (pt_val (pe_call G__law_same (hr.mono (by decide)) (by rfl) T.mg__law_same T.F__law_same.kp (b__law_same T) .nil pass0 (pa_cons (pe_call G_totals (hr.mono (by decide)) (by rfl) T.mg_totals T.F_totals.kp (b_totals T) .nil pass0 (pa_cons (pv 11) (pa_cons (pv 8) (pa_cons (pv 12) (pa_cons (pv 9) (pa_cons (pv 10) pa_nil)))))) (pa_cons (pe_tup (pa_cons (pe_bm PySem.F.plainAttrs_list PySem.F.slot_list_count PySem.F.type_list_count mt_countF (pv 15) (pa_cons pe_bl pa_nil)) (pa_cons (pv 16) (pa_cons (pv 18) pa_nil)))) pa_nil))))) (pss_one (ps_ret pe_bl)) pss_nil)
      (pss_cons (ps_set (i := 19) sc_law.nd rfl (Or.inr rfl) (pe_call G__law_drawn (hr.mono (by decide)) (by rfl) T.mg__law_drawn T.F__law_drawn.kp (b__law_drawn T) .nil pass0 (pa_cons (pv 1) (pa_cons (pe_op op_pow pe_int pe_int) pa_nil))))
      (pss_cons (ps_set (i := 20) sc_law.nd rfl (Or.inl rfl) (pe_slice (show SlR _ (rSlT K) from sl_tup) (pe_ix ix_list (pv 6) pe_int (fun _ _ => rfl)) (po_some pe_int) po_none))
      (pss_cons (ps_if (pt_cmpR op_eq (pv 4) pe_str (nomark _)) (pss_one (ps_set (i := 20) sc_law.nd rfl (Or.inl rfl) (pe_ix ix_list (pe_lc (own := [("_law_part", 21)]) (g := gName 21) rfl sc_law.nd (pi_list (pv 6)) (blkOk_by (own := [("_law_part", 21)]) (N := ["_law_script", "_law_state", "_law_turn", "_law_changes_here", "_law_word", "_law_length", "_law_parts_here", "_law_pause", "_law_gain", "_law_start_here", "_law_count", "_law_sky", "_law_setting_here", "_law_rows", "_law_row", "_law_flags", "_law_switched", "_law_k", "_law_least", "_law_tick", "_law_expected", "_law_part"]) (sc := (defScope s_law)) (by decide +kernel)) (fun _ _ _ _ _ => pg_name (i := 21) sc_law.nd rfl (Or.inl rfl)) (fun _ _ _ _ _ => pts_one (pt_cmpR op_le (pe_ix (show IxR _ (rIxT K) from ix_tup) (pv 21) pe_int (fun _ _ => rfl)) (pe_op op_mod (pv 19) (pv 5)) (nomark _))) (fun _ _ _ _ _ => (pe_slice (show SlR _ (rSlT K) from sl_tup) (pv 21) (po_some pe_int) po_none))) (pe_op op_sub pe_int pe_int) (fun _ _ => rfl)))) pss_nil)
      (pss_one (ps_if (PW.pt (pw_or (pt_cmpR (op_neD hr.units) (pe_methV (k := 2) (pv 12) (hr.mono (by decide)) (pa_cons (pv 19) pa_nil)) (pv 20) (nomark _)) (pw_or (pt_cmpR op_ne (pe_con (pv 12) rfl) (pv 4) (nomark _)) (pw_or1 (pt_not (pt_val (pe_callB call_isi (by rfl) T.z_isinstance (by decide +kernel) (pa_cons (pv 12) (pa_cons (pe_glob (v := .ref a.c_Setting) (by rfl) T.mg_Setting rfl) pa_nil))))))))) (pss_one (ps_ret pe_bl)) pss_nil))))))))))))))))))
      (pss_one (ps_ret (pe_call G__law_refused (hr.mono (by decide)) (by rfl) T.mg__law_refused T.F__law_refused.kp (b__law_refused T) .nil pass0 (pa_cons (pe_call G__law_weather (hr.mono (by decide)) (by rfl) T.mg__law_weather T.F__law_weather.kp (b__law_weather T) .nil pass0 (pa_cons (pe_lst (pa_cons pe_int pa_nil)) pa_nil)) pa_nil))))))), ?_⟩
    refine ⟨_, rfl, c, ns, rfl, hS, hl, fun x H1 ls1 s1 nx => ?_⟩
    dsimp only
    refine g_seq ?_
    show tIfS _ _ _ _ (some (.ref c) :: some (.ref x) :: List.replicate 20 none) H1
    refine if_op ?_
    obtain ⟨uP, cP⟩ := KI.p.cv
    obtain ⟨uH, cH⟩ := KI.h.cv
    obtain ⟨uR, cR⟩ := KI.r.cv
    obtain ⟨uM, cM⟩ := KI.m24
    refine ⟨a.c_Setting, _, _, _, rfl, KI.p.cr, cP, a.c_HourSetting, _, _, _, rfl, KI.h.cr, cH, a.c_RestSetting, _, _, _, rfl, KI.r.cr, cR, a.c_HourSetting, _, _, _, rfl, KI.h.cr, cM, by show 4 ≤ sizeLine; decide, fun q hq => ⟨by show 4 ≤ sizeLine; decide, fun u hu => ?_⟩⟩
    have sq := same_upd (o := .tup [.str "plain", .str "hours", .str "rest", .int 24]) hq
    have su := same_upd (o := .tup [.str "plain", .str "hours", .str "rest", .int 24]) hu
    refine neD_tup (r := [.str "plain", .str "hours", .str "rest", .int 24]) (t := [.str "plain", .str "hours", .str "rest", .int 24]) (su _ _ upd_same) upd_same rfl rfl (by decide +kernel) (by decide +kernel) ⟨_, rfl, ifF (by decide +kernel) ?_⟩
    have s2 := s1.trans (sq.trans su)
    have ls2 := ls1.same (sq.trans su)
    have tb2 : Tabs (lamT Pf) _ := hT.ext s2
    generalize upd (upd H1 q _) u _ = H2 at s2 ls2 tb2 ⊢
    clear s1 ls1 sq su hq hu cP cH cR cM
    refine tnext ?_
    dsimp only
    refine ⟨5, rfl, by decide, by decide, for_range (lo := 0) (n := 5) (fun i σ H' => ∃ vs : List (Option V), σ = some (.ref c) :: some (.ref x) :: vs ∧ vs.length = 20 ∧ LS K H' x c ∧ Tabs (lamT Pf) H') ⟨List.replicate 20 none, rfl, rfl, ls2, tb2⟩ ?_ ?_⟩
    · rintro i σ H3 hi ⟨vs, rfl, lvs, ls3, tb3⟩
      match vs, lvs with
      | [v2, v3, v4, v5, v6, v7, v8, v9, v10, v11, v12, v13, v14, v15, v16, v17, v18, v19, v20, v21], _ =>
      clear lvs
      show tSeq (tPar 3 4 _) _ _ _ _
      refine seq_par (C := fun v w H' => ∃ (Lc : Addr) (ch : List Int) (kd : Kd), v = .ref Lc ∧ w = .str kd.str ∧ CH ch ∧ ch.length ≤ 5 ∧ H' Lc = some (.lst (ch.map V.int)) ∧ Lc ≠ x ∧ LS K H' x c ∧ Tabs (lamT Pf) H') (fun Q7 hQ => ?_) ?_
      · refine ⟨_, rfl, x, c, 5, rfl, ls3, by decide, by decide, fun L1 ch H4 cch c5 h1 n1 n1x ls4 k4 => ⟨by show 3 ≤ sizeLine; decide, fun M nM => ?_⟩⟩
        have sM := same_upd (o := .lst [.str "plain", .str "hours", .str "rest"]) nM
        refine ⟨_, rfl, x, c, 3, rfl, ls4.same sM, by decide, by decide, fun r H5 r0 r1 ls5 k5 => ?_⟩
        obtain ⟨kd, hat⟩ := pickK r0 r1
        exact ⟨M, _, _, _, rfl, rfl, SqL.of (k5 _ _ (ls4.off nM) upd_same), hat, hQ _ _ _ ⟨L1, ch, kd, rfl, rfl, cch, c5, k5 _ _ n1x (sM _ _ h1), n1x, ls5, tabs_kp (ls4.same sM) k5 ((tabs_kp ls3 k4 tb3).ext sM)⟩⟩
      rintro v w H4 ⟨Lc, ch, kd, rfl, rfl, cch, c5, hLc, nLc, ls4, tb4⟩
      clear ls3 tb3
      try dsimp only [List.set_cons_succ, List.set_cons_zero]
      refine seq_unf ?_
      refine ⟨_, rfl, x, c, rfl, ls4, fun p U qs ps L H5 ok hp hU pa nUx ls5 k5 => ⟨p, _, rfl, SqT.of hp, rfl, _, _, rfl, _, _, rfl, rfl, ?_⟩⟩
      have tb5 := tabs_kp ls4 k5 tb4
      have hLc5 := k5 _ _ nLc hLc
      clear hp ls4 tb4 k5 hLc
      try dsimp only [List.set_cons_succ, List.set_cons_zero]
      refine seq_unf ?_
      refine drawn_of 4 30 rfl ls5 (by decide) (by decide) (fun Q8 hQ8 => ⟨by show 2 ≤ sizeLine; decide, fun L nL => hQ8 L _ nL rfl⟩) fun r H6 r0 r1 ls6 k6 => ?_
      have r1 : r ≤ 1000 := by omega
      have tb6 := tabs_kp ls5 k6 tb5
      have hLc6 := k6 _ _ nLc hLc5
      have hU6 := k6 _ _ nUx hU
      have pa6 := pa.kp ls5 k6
      clear ls5 k6 tb5 hLc5 hU pa
      refine g_unf ?_
      refine drawn_of 6 200 rfl ls6 (by decide) (by decide) (fun Q8 hQ8 => ⟨by show 2 ≤ sizeLine; decide, fun L nL => hQ8 L _ nL rfl⟩) fun g H7 g0 g1 ls7 k7 => ⟨_, _, rfl, rfl, ?_⟩
      obtain ⟨g, rfl, g1, g2⟩ : ∃ g' : Int, g = g' - 1 ∧ 1 ≤ g' ∧ g' ≤ 200 := ⟨g + 1, by omega, by omega, by omega⟩
      have tb7 := tabs_kp ls6 k7 tb6
      have hLc7 := k7 _ _ nLc hLc6
      have hU7 := k7 _ _ nUx hU6
      have pa7 := pa6.kp ls6 k7
      clear ls6 k7 tb6 hLc6 hU6 pa6 g0
      show gName 8 (.int (1 + (g - 1))) _ _ _
      rw [show 1 + (g - 1) = g by omega]
      refine g_seq ?_
      try dsimp only [List.set_cons_succ, List.set_cons_zero]
      show tSeq (tPar 9 10 _) _ _ _ _
      refine seq_par (C := fun v w H' => ∃ (st : Int) (n : Nat), v = .int st ∧ w = .int (n : Nat) ∧ -30 ≤ st ∧ st ≤ 29 ∧ n < 100 ∧ H' Lc = some (.lst (ch.map V.int)) ∧ H' U = some (.lst (qs.map V.ref)) ∧ PartsAt H' qs ps ∧ LS K H' x c ∧ Tabs (lamT Pf) H') (fun Q7 hQ => ?_) ?_
      · refine ⟨_, rfl, x, c, 60, rfl, ls7, by decide, by decide, fun r' H8 a0 a1 ls8 k8 => ⟨_, _, rfl, rfl, _, rfl, x, c, 100, rfl, ls8, by decide, by decide, fun r2 H9 b0 b1 ls9 k9 => ?_⟩⟩
        obtain ⟨n, rfl⟩ : ∃ n : Nat, r2 = n := ⟨r2.toNat, by omega⟩
        exact hQ _ _ _ ⟨r' - 30, n, rfl, rfl, by omega, by omega, by omega, k9 _ _ nLc (k8 _ _ nLc hLc7), k9 _ _ nUx (k8 _ _ nUx hU7), (pa7.kp ls7 k8).kp ls8 k9, ls9, tabs_kp ls8 k9 (tabs_kp ls7 k8 tb7)⟩
      rintro v w H8 ⟨st, n, rfl, rfl, st1, st2, n100, hLc8, hU8, pa8, ls8, tb8⟩
      clear ls7 tb7 hLc7 hU7 pa7
      try dsimp only [List.set_cons_succ, List.set_cons_zero]
      show tSeq (tPar 11 12 _) _ _ _ _
      refine seq_par (C := fun v w H' => ∃ (ww z : Addr), v = .ref ww ∧ w = .ref z ∧ WAt a H' ww ch ∧ KAt a H' z L ps r kd ∧ Same H8 H') (fun Q7 hQ => ?_) ?_
      · exact ⟨_, rfl, Lc, ch, rfl, hLc8, cch, c5, fun ww H9 s9 w9 => ⟨_, rfl, _, rfl, _, rfl, _, rfl, U, qs, ps, L, r, kd, rfl, s9 _ _ hU8, pa8.same s9, ok, r0, r1, fun z H10 s10 kz => hQ _ _ _ ⟨ww, z, rfl, rfl, w9.same s10, kz, s9.trans s10⟩⟩⟩
      rintro v w H9 ⟨ww, z, rfl, rfl, w9, kz9, s89⟩
      try dsimp only [List.set_cons_succ, List.set_cons_zero]
      refine seq_asg (C := fun v H' => ∃ R, v = .ref R ∧ Wk K a x c Pf U ww z R ch qs ps L r g st kd n H') (fun Q7 hQ => ?_) ?_
      · refine ⟨_, rfl, _, rfl, _, rfl, _, rfl, _, rfl, _, rfl, _, rfl, _, rfl, U, Lc, qs, ps, L, n, r, g, st, kd, ch, rfl, s89 _ _ hU8, pa8.same s89, ok, s89 _ _ hLc8, cch, by omega, g1, g2, fun R ys H10 hR ly rw1 nR s10 => hQ _ _ ⟨R, rfl, ?_⟩⟩
        have s := s89.trans s10
        exact ⟨ls8.same s, tb8.ext s, nUx, s _ _ hU8, pa8.same s, w9.same s10, kz9.same s10, (ls8.same s89).off nR, ys, hR, ly, rw1⟩
      rintro v H10 ⟨R, rfl, wk⟩
      clear ls8 tb8 hLc8 hU8 pa8 w9 kz9 s89
      generalize eS : kd.S L ps r = S
      have pl : ps.length ≤ 1000 := by have := ok.n4; omega
      refine g_any (C := fun σ' H' => σ' = [some (.ref c), some (.ref x), some (.int (0 + (i : Int))), some (.ref Lc), some (.str kd.str), some (.int (L : Nat)), some (.ref U), some (.int r), some (.int g), some (.int st), some (.int (n : Nat)), some (.ref ww), some (.ref z), some (.ref R), v14, v15, v16, v17, v18, v19, v20, v21] ∧ Wk K a x c Pf U ww z R ch qs ps L r g st kd n H') (fun D' hD' => ?_) ?_
      · try dsimp only [List.set_cons_succ, List.set_cons_zero]
        refine tif_one ?_
        refine not_alike (C1 := fun v H' => ∃ D ys, v = .ref D ∧ H' D = some (.lst ys) ∧ ys.length = n ∧ Rws (kd.S L ps r) ch g st H' ys ∧ Same H10 H') (C2 := fun u v H' => v = .ref R ∧ ∃ D ys, u = .ref D ∧ H' D = some (.lst ys) ∧ ys.length = n ∧ Rws (kd.S L ps r) ch g st H' ys ∧ Same H10 H') (fun Q8 hQ8 => ?_) (fun u H' c1 Q8 hQ8 => ⟨_, rfl, hQ8 _ _ ⟨rfl, c1⟩⟩) (fun u v H' ⟨ev, D, ys, eu, hD, ly, ry, s11⟩ => ?_)
        · refine ⟨_, rfl, _, rfl, _, rfl, _, rfl, _, rfl, ?_⟩
          exact watch_rowsA (st := st) (n := n) (g := g) cch g1 g2 (by omega) (by omega) wk.wt (wk.kz.atA pl) (by omega) fun H11 D ys s11 ly ry nD => hQ8 _ _ ⟨D, ys, rfl, upd_same, ly, ry.same (same_upd nD), s11.trans (same_upd nD)⟩
        · subst ev eu
          obtain ⟨zs, hR, lz, rz⟩ := (wk.same s11).rows
          exact ⟨.inr ⟨D, R, ys, zs, rfl, rfl, rows_at ly lz (by omega) ry rz, .inl ⟨hD, hR⟩⟩, fun H12 s12 => ifF rfl (tnext (hD' _ _ ⟨rfl, (wk.same s11).same s12⟩))⟩
      rintro σ' H11 ⟨rfl, wk⟩
      refine seq_asg (C := fun v H' => ∃ F, v = .ref F ∧ H' F = some (.lst ((flL S ch g st (n + 1)).map V.bl)) ∧ F ≠ x ∧ Wk K a x c Pf U ww z R ch qs ps L r g st kd n H') (fun Q7 hQ => ?_) ?_
      · refine ⟨by show 1 ≤ sizeLine; decide, fun Z nZ => ?_⟩
        have sZ := same_upd (o := .lst [.bl false]) nZ
        obtain ⟨ys, hR, ly, ry⟩ := (wk.same sZ).rows
        rw [eS] at ry
        refine ⟨_, rfl, R, rfl, ⟨_, SqL.of hR⟩, fun D nD => lc_list (K := K) (a := R) (xs := ys) (fun i H2 => Same (upd H11 Z (.lst [.bl false])) H2 ∧ H2 D = some (.lst (((List.range i).map fun k => S.wo ch g st k).map V.bl))) ⟨same_upd nD, upd_same⟩ (fun i H2 _ ⟨s, _⟩ => SqL.of (s _ _ hR)) ?_ ?_⟩
        · rintro j v H2 hj ⟨s2, hD⟩
          obtain ⟨q, rfl, hq⟩ := (ry.same s2) j v hj
          refine ⟨rfl, _, rfl, q, _, _, _, rfl, rfl, SqT.of hq, rfl, _, hD, by rw [List.length_map, List.length_map, List.length_range]; exact small10k (by have := (List.getElem?_eq_some_iff.mp hj).1; omega), lcStep' nD s2, ?_⟩
          rw [upd_same, List.range_succ, List.map_append, List.map_append]
          rfl
        · rintro H12 ⟨s12, hD⟩
          rw [ly] at hD
          refine ⟨Z, D, _, _, rfl, rfl, s12 _ _ upd_same, hD, by rw [List.length_map, List.length_map, List.length_range]; exact Nat.le_of_lt (small1000 (by show 1 + n ≤ 1000; omega)), fun F nF => hQ _ _ ⟨F, rfl, ?_, ?_, (wk.same (sZ.trans s12)).same (same_upd nF)⟩⟩
          · rw [upd_same, flL_cons]; rfl
          · exact ((wk.same (sZ.trans s12)).ls).off nF
      rintro v H12 ⟨F, rfl, hF, nFx, wk⟩
      try dsimp only [List.set_cons_succ, List.set_cons_zero]
      refine g_asg (C := fun v H' => v = .int (S.sc ch g st n) ∧ Same H12 H') (fun Q7 hQ => ?_) ?_
      · try dsimp only [List.set_cons_succ, List.set_cons_zero]
        refine ⟨_, rfl, n, rfl, by omega, by omega, fun D nD => lc_range (lo := 0) (n := ((n : Nat) : Int).toNat) (fun i H2 => Same H12 H2 ∧ ∃ ks : List Int, H2 D = some (.lst (ks.map V.int)) ∧ ks.length ≤ i ∧ (ks.length : Int) = S.sc ch g st i) ⟨same_upd nD, [], upd_same, Nat.le_refl _, rfl⟩ ?_ ?_⟩
        · rintro j H2 hj ⟨s2, ks, hD, kl, ke⟩
          have hj : j < n := by omega
          have hF2 := s2 _ _ hF
          have e0 : (0 : Int) + (j : Int) = ((j : Nat) : Int) := Int.zero_add _
          have e1 : (0 : Int) + (j : Int) + 1 = ((j + 1 : Nat) : Int) := by omega
          have esc : S.sc ch g st (j + 1) = S.sc ch g st j + (if (S.wo ch g st j != (S.st ch g st j).on) = true then 1 else 0) := rfl
          have ewo : (S.st ch g st (j + 1)).on = S.wo ch g st j := rfl
          refine ⟨rfl, _, rfl, _, rfl, F, _, _, _, rfl, rfl, SqL.of hF2, by rw [e0]; exact atI_nat (flL_at (show j < n + 1 by omega)), _, rfl, _, rfl, _, _, rfl, rfl, F, _, _, _, rfl, rfl, SqL.of hF2, by rw [e1]; exact atI_nat (flL_at (show j + 1 < n + 1 by omega)), rfl, _, rfl, ?_⟩
          rw [ewo]
          by_cases c1 : (S.st ch g st j).on = S.wo ch g st j
          · refine ifF (ndF (congrArg V.bl c1)) ⟨s2, ks, hD, by omega, ?_⟩
            rw [esc, ke, c1, Th.bne_self]
            simp
          · refine ifT (by rw [dF (fun z => c1 (by injection z))]; rfl) ⟨_, rfl, _, hD, by rw [List.length_map]; exact small1000 (by omega), lcStep' nD s2, ks ++ [0 + (j : Int)], by rw [upd_same, List.map_append]; rfl, by rw [List.length_append, List.length_singleton]; omega, ?_⟩
            have cb : (S.wo ch g st j != (S.st ch g st j).on) = true := by
              revert c1
              cases S.wo ch g st j <;> cases (S.st ch g st j).on <;> simp
            rw [esc, if_pos cb, List.length_append, List.length_singleton, Int.natCast_add, ke]
            rfl
        · rintro H13 ⟨s13, ks, hD, kl, ke⟩
          refine ⟨D, _, rfl, .inl (SqL.of hD), ?_⟩
          rw [List.length_map, ke, show ((n : Nat) : Int).toNat = n from rfl]
          exact hQ _ _ ⟨rfl, s13⟩
      rintro v H13 ⟨rfl, s13⟩
      replace wk := wk.same s13
      replace hF := s13 _ _ hF
      clear s13
      try dsimp only [List.set_cons_succ, List.set_cons_zero]
      refine g_asg (C := fun v H' => v = lstV (S.least ch g st n) ∧ Same H13 H') (fun Q7 hQ => ?_) ?_
      · try dsimp only [List.set_cons_succ, List.set_cons_zero]
        refine ⟨_, rfl, by show 0 ≤ sizeLine; decide, fun E0 nE => ?_⟩
        have sE := same_upd (o := .lst []) nE
        obtain ⟨ys, hR, ly, ry⟩ := (wk.same sE).rows
        rw [eS] at ry
        refine ne_nil hR ry upd_same ⟨_, rfl, ?_⟩
        by_cases n0 : ys.length = 0
        · refine ifF (by rw [decide_eq_false (fun z => z n0)]) ?_
          have : n = 0 := by omega
          subst this
          exact hQ _ _ ⟨rfl, sE⟩
        · refine ifT (decide_eq_true n0) ?_
          refine ⟨_, rfl, R, rfl, ⟨_, SqL.of hR⟩, fun D nD => lc_list (K := K) (a := R) (xs := ys) (fun i H2 => Same (upd H13 E0 (.lst [])) H2 ∧ H2 D = some (.lst ((wdL S ch g st i).map V.int))) ⟨same_upd nD, upd_same⟩ (fun i H2 _ ⟨s, _⟩ => SqL.of (s _ _ hR)) ?_ ?_⟩
          · rintro j v H2 hj ⟨s2, hD⟩
            obtain ⟨q, rfl, hq⟩ := (ry.same s2) j v hj
            refine ⟨rfl, _, rfl, q, _, _, _, rfl, rfl, SqT.of hq, rfl, _, hD, by unfold wdL; rw [List.length_map, List.length_map, List.length_range]; exact small10k (by have := (List.getElem?_eq_some_iff.mp hj).1; omega), lcStep' nD s2, ?_⟩
            unfold wdL
            rw [upd_same, List.range_succ, List.map_append, List.map_append]
            rfl
          · rintro H14 ⟨s14, hD⟩
            rw [ly] at hD
            refine ⟨D, wdL S ch g st n, rfl, SqL.of hD, by unfold wdL; rw [List.length_map, List.length_range]; omega, fun m hm hl => hQ _ _ ⟨?_, sE.trans s14⟩⟩
            obtain ⟨m2, e2, hm2, hl2⟩ := least_spec (S := S) (ch := ch) (g := g) (st := st) (n := n) (by omega)
            rw [e2, min_uniq hm hl hm2 hl2]
            rfl
      rintro v H14 ⟨rfl, s14⟩
      replace wk := wk.same s14
      replace hF := s14 _ _ hF
      clear s14
      try dsimp only [List.set_cons_succ, List.set_cons_zero]
      refine g_any (C := fun σ' H' => σ' = [some (.ref c), some (.ref x), some (.int (0 + (i : Int))), some (.ref Lc), some (.str kd.str), some (.int (L : Nat)), some (.ref U), some (.int r), some (.int g), some (.int st), some (.int (n : Nat)), some (.ref ww), some (.ref z), some (.ref R), v14, some (.ref F), some (.int (S.sc ch g st n)), v17, some (lstV (S.least ch g st n)), v19, v20, v21] ∧ Wk K a x c Pf U ww z R ch qs ps L r g st kd n H') (fun D' hD' => ?_) ?_
      · try dsimp only [List.set_cons_succ, List.set_cons_zero]
        refine tif_one ?_
        refine ⟨_, rfl, _, rfl, _, rfl, _, rfl, _, rfl, ww, z, ch, g, st, n, S, rfl, wk.wt, cch, g1, g2, by omega, by omega, by omega, by rw [← eS]; exact wk.kz.atA pl, fun p H15 s15 hp => ?_⟩
        have hF15 := s15 _ _ hF
        refine ⟨_, rfl, .inl ⟨rfl, _, SqL.of hF15⟩, F, _, .bl true, rfl, rfl, SqL.of hF15, rfl, fl_flat, ?_⟩
        rw [fl_count]
        refine ⟨_, rfl, _, rfl, by show 3 ≤ sizeLine; decide, fun q nq => ?_⟩
        have sq := same_upd (o := .tup [.int (S.hc ch g st n), .int (S.sc ch g st n), lstV (S.least ch g st n)]) nq
        refine ⟨_, _, rfl, .inr ⟨p, q, _, _, rfl, rfl, Sq1.cons (.inl (Fl.int _)) (Sq1.cons (.inl (Fl.int _)) (Sq1.cons (.inl (lstV_fl _)) Sq1.nil (by show 0 < 1000000; decide)) (by show 1 < 1000000; decide)) (by show 2 < 1000000; decide), .inr ⟨sq _ _ hp, upd_same⟩⟩, fun H16 s16 => ⟨_, rfl, ifF rfl (tnext (hD' _ _ ⟨rfl, (wk.same (s15.trans sq)).same s16⟩))⟩⟩
      rintro σ' H15 ⟨rfl, wk⟩
      clear hF nFx
      obtain ⟨q0, p0, eq0, ep0, elo, ehi⟩ : ∃ q0 p0, qs[0]? = some q0 ∧ ps[0]? = some p0 ∧ lo0 ps = p0.2.1 ∧ hi0 ps = p0.2.2 := by
        have n1 := ok.n1
        have pe := wk.pa.1
        cases ps with
        | nil => simp at n1
        | cons p0 pr =>
          cases qs with
          | nil => simp at pe
          | cons q0 qr => exact ⟨q0, p0, rfl, rfl, rfl, rfl⟩
      refine seq_unf ?_
      refine ⟨_, rfl, _, _, rfl, rfl, ⟨by decide, by decide, by decide⟩, x, c, 10 ^ (9 : Int).toNat, rfl, wk.ls, by decide, by decide, fun t0 H16 t1 t2 ls16 k16 => ?_⟩
      obtain ⟨t, rfl⟩ : ∃ t : Nat, t0 = t := ⟨t0.toNat, by omega⟩
      replace wk := wk.kp ls16 k16
      clear ls16 k16 t1 t2
      refine g_unf ?_
      have h0 := wk.pa.2 0 q0 p0 eq0 ep0
      refine ⟨_, rfl, U, _, _, _, rfl, rfl, SqL.of wk.hU, at_int (v := .ref q0) (by decide) (by show (qs.map V.ref)[0]? = _; rw [List.getElem?_map, eq0]; rfl), 1, rfl, q0, _, rfl, SqT.of h0, hw3, fun p np => ?_⟩
      rw [cut3]
      have sp := same_upd (o := .tup [.int p0.2.1, .int p0.2.2]) np
      have hp : (upd H16 p (.tup [.int p0.2.1, .int p0.2.2])) p = some (.tup [.int (lo0 ps), .int (hi0 ps)]) := by rw [elo, ehi]; exact upd_same
      have wkp := wk.same sp
      generalize upd H16 p (.tup [.int p0.2.1, .int p0.2.2]) = H17 at hp wkp ⊢
      clear h0 wk sp np
      refine g_any (C := fun σ' H' => ∃ q u21, σ' = [some (.ref c), some (.ref x), some (.int (0 + (i : Int))), some (.ref Lc), some (.str kd.str), some (.int (L : Nat)), some (.ref U), some (.int r), some (.int g), some (.int st), some (.int (n : Nat)), some (.ref ww), some (.ref z), some (.ref R), v14, some (.ref F), some (.int (S.sc ch g st n)), v17, some (lstV (S.least ch g st n)), some (.int (t : Nat)), some (.ref q), u21] ∧ H' q = some (.tup ([(S.thr t).1, (S.thr t).2].map V.int)) ∧ Wk K a x c Pf U ww z R ch qs ps L r g st kd n H') (fun D' hD' => ?_) ?_
      · try dsimp only [List.set_cons_succ, List.set_cons_zero]
        cases kd with
        | plain => exact ⟨_, rfl, rfl, _, rfl, ifF rfl (tnext (hD' _ _ ⟨p, v21, rfl, by rw [← eS]; exact hp, wkp⟩))⟩
        | rest => exact ⟨_, rfl, rfl, _, rfl, ifF rfl (tnext (hD' _ _ ⟨p, v21, rfl, by rw [← eS]; exact hp, wkp⟩))⟩
        | hours =>
          refine ⟨_, rfl, rfl, _, rfl, ifT rfl ?_⟩
          refine asg_op ?_
          refine hours_lc (L := L) (t := t) rfl rfl rfl (by show 21 < 22; decide) (by decide) (by decide) ok.l1 pl wkp.hU wkp.pa fun D rs H18 s18 hD pr3 => ?_
          obtain ⟨q, hat, hq⟩ := hours_last ok.fn pr3
          exact ⟨_, _, rfl, rfl, D, _, _, _, rfl, rfl, SqL.of hD, hat, hD' _ _ ⟨q, v21, rfl, by rw [← eS]; exact hq, wkp.same s18⟩⟩
      rintro σ' H18 ⟨q, u21, rfl, hq, wk⟩
      clear wkp hp
      refine tif_one (or_step ?_)
      refine methV_kd (i := 12) (j := 19) T SW pl rfl rfl wk.kz fun p H19 s19 hp => ⟨_, rfl, ?_⟩
      rw [eS] at hp
      refine neT_ints (ns := [(S.thr t).1, (S.thr t).2]) (ms := [(S.thr t).1, (S.thr t).2]) hp (s19 _ _ hq) ⟨_, rfl, ifF (by rw [decide_eq_true rfl]; rfl) (or_step ?_)⟩
      replace wk := wk.same s19
      obtain ⟨dx, fs, hz, lk⟩ := wk.kz.ins
      obtain ⟨uk, con⟩ := (KI.of kd).con
      refine ⟨_, rfl, z, kd.cls a, dx, fs, _, _, rfl, hz, clsOf T kd, con, lk, _, rfl, rfl, _, rfl, ifF (ndF rfl) ?_⟩
      refine ⟨_, rfl, _, _, _, _, true, rfl, .own _, .base (.ins hz (clsOf T kd) (KI.of kd).cc (KI.of kd).hn (KI.of kd).tk (KI.of kd).mo), (KI.of kd).kit, true, rfl, ?_⟩
      exact ifF rfl (tnext ⟨_, rfl, rfl, wk.ls, wk.tb⟩)
    · rintro σ H3 ⟨vs, rfl, lvs, ls3, tb3⟩
      refine ⟨by show 1 ≤ sizeLine; decide, fun D nD => ⟨D, [1], rfl, upd_same, ⟨by decide, by decide, fun y hy => by rw [List.mem_singleton.mp hy]; decide⟩, by decide, fun z H4 s4 w4 => ⟨z, rfl, (tb3.ext (same_upd nD)).ext s4, fun H' => k H'⟩⟩⟩
end
end W6

namespace W6
open PySem PySem.Spec PyProof.Rows L2 Ru StX LamX
theorem isS_ok {α : Type} : ∀ {o : Option α}, isS o = true → ∃ x, o = some x
  | some x, _ => ⟨x, rfl⟩
  | none, h => by cases h
def erA2 (K : PySem.W.Frag) : Er2 := ⟨He.ga K "InvalidNumber", He.ga K "InvalidSetting", He.ma K (He.ga K "InvalidSetting") "__init__"⟩
theorem ei_of {P : Program} {K : PySem.W.Frag} {h : Heap} {mg : Str → Option Value} {nm q : Str} {st : Stmt} (X : K.In h) (G : h.Ns mainGlobals mg) (b : (eiL K nm q P.main.file).all id = true) (x : Hq2.moX K (He.ma K (He.ga K nm) "__init__") = Hq2.mvX "__init__" q st)
    (ms : ∃ (msg : Str) (k : Nat) (p1 p2 r1 r2 r3 r4 r5 r6 r7 r8 r9 q1 q2 q3 q4 : Pos), (r3.endLine == r8.line) = true ∧ defArgs st = PySem.IxX.iA p1 p2 ∧ defBody st = PySem.IxX.iB msg k r1 r2 r3 r4 r5 r6 r7 r8 r9 q1 q2 q3 q4 ∧ defScope st = PySem.IxX.iS ∧ msg.length ≤ 1000)
    (top : (P.main.scope.names.lookup ("super" : Str)).isSome = false) : Ei P K mg nm (He.ga K nm) (He.ma K (He.ga K nm) "__init__") := by
  have at_ : ∀ (i : Nat) (c : Bool), (eiL K nm q P.main.file)[i]? = some c → c = true := fun i c e => List.all_eq_true.mp b c (List.mem_of_getElem? e)
  have ex : ExcC K (He.ga K nm) := Hq2.excB_ok (at_ 1 _ rfl)
  have hix : Hq2.ixB K (He.ga K nm) = true := at_ 3 _ rfl
  obtain ⟨b1, hix⟩ := He.ba hix
  obtain ⟨b2, hix⟩ := He.ba hix
  obtain ⟨b3, hix⟩ := He.ba hix
  obtain ⟨b4, hix⟩ := He.ba hix
  obtain ⟨b5, hix⟩ := He.ba hix
  obtain ⟨b6, hix⟩ := He.ba hix
  obtain ⟨b7, hix⟩ := He.ba hix
  obtain ⟨b8, hix⟩ := He.ba hix
  obtain ⟨b9, hix⟩ := He.ba hix
  obtain ⟨b10, b11⟩ := He.ba hix
  obtain ⟨oc, od, doc, pm, an, cda, cc, ct, osl, lk, co, ⟨ccl, cdd, vs, ccs, tf, hcode, hvs⟩, hcell⟩ := Hq2.mx_ok x (at_ 4 _ rfl) (at_ 5 _ rfl) (at_ 6 _ rfl)
  obtain ⟨msg, k, p1, p2, r1, r2, r3, r4, r5, r6, r7, r8, r9, q1, q2, q3, q4, el, ea, eb, es, eml⟩ := ms
  rw [ea, eb, es] at lk
  exact ⟨{
      gC := PySem.W.mg_of X G (He.eqO_ok (at_ 0 _ rfl))
      cls := Hq2.ixClsB_ok b1
      sa := He.eqO_ok b2
      ga := ex.hg
      gg := ex.hk
      noN := He.eqO_ok b3
      iC := He.eqO_ok b4
      tC := of_decide_eq_true b5
      kC := b6
      exC := ex.hs
      tyC := of_decide_eq_true b7
      hdC := ex.hd
      mr := of_decide_eq_true b8
      su := He.eqO_ok b9
      ve := of_decide_eq_true b10
      any := He.eqO_ok b11
      noS := PySem.W.mg_none_of X G (He.eqO_ok (at_ 2 _ rfl))
      top := top
      fn := ⟨oc, od, q, doc, pm, an, cda, cc, ct, osl, msg, k, p1, p2, r1, r2, r3, r4, r5, r6, r7, r8, r9, q1, q2, q3, q4, el, lk, co, eml, ⟨ccl, cdd, vs, ccs, _, tf, hcode, hvs, by simp⟩, hcell⟩ }, ex⟩
theorem ep_of {K : PySem.W.Frag} {h : Heap} {mg : Str → Option Value} {nm : Str} (X : K.In h) (G : h.Ns mainGlobals mg) (b : (epL K nm).all id = true) : Ep K mg nm (He.ga K nm) := by
  have at_ : ∀ (i : Nat) (c : Bool), (epL K nm)[i]? = some c → c = true := fun i c e => List.all_eq_true.mp b c (List.mem_of_getElem? e)
  exact ⟨PySem.W.mg_of X G (He.eqO_ok (at_ 0 _ rfl)), Hq2.excB_ok (at_ 1 _ rfl), at_ 2 _ rfl, at_ 3 _ rfl, of_decide_eq_true (at_ 4 _ rfl), of_decide_eq_true (at_ 5 _ rfl)⟩
theorem xm_of {K : PySem.W.Frag} {x y : Str} {c : Bool} (b : xmB K x y c = true) : PySem.W.exmOne K (.ref (He.ga K x)) (.ref (He.ga K y)) = some c := of_decide_eq_true b
end W6

namespace W6
open PySem PySem.Spec PyProof.Rows L2 Ru StX LamX
theorem wM_of {K : PySem.W.Frag} {a : Ad} (e : a.c_Weather = He.ga K "Weather") (g : a.f_Weather_mul = He.ma K (He.ga K "Weather") "__mul__") (b : (wmL K).all id = true) : WMu K a := by
  have at_ : ∀ (i : Nat) (c : Bool), (wmL K)[i]? = some c → c = true := fun i c e => List.all_eq_true.mp b c (List.mem_of_getElem? e)
  exact { hm := by rw [e]; exact at_ 0 _ rfl
          mul := by rw [e, g]; exact ⟨at_ 1 _ rfl, He.eqO_ok (at_ 2 _ rfl), at_ 3 _ rfl, He.eqO_ok (at_ 4 _ rfl), isS_ok (at_ 5 _ rfl), isS_ok (at_ 6 _ rfl), of_decide_eq_true (at_ 7 _ rfl)⟩ }
theorem conS_ok {K : PySem.W.Frag} {C : Addr} {x s : Str} (hc : PySem.W.copiedNames.contains x = false) (h : conS K C x s = true) : ∃ u, Con K C x (.str s) u := by
  unfold conS at h
  split at h
  · rename_i v t e
    rw [Bool.and_eq_true] at h
    have ev := of_decide_eq_true h.1
    subst ev
    exact ⟨_, e, ⟨_, rfl⟩, He.eqO_ok h.2, hc⟩
  · cases h
theorem cvS_ok {K : PySem.W.Frag} {C : Addr} {x s : Str} (h : cvS K C x s = true) : ∃ u, ClX.CVal K C (.type "type") x (.str s) u := by
  unfold cvS at h
  split at h
  · rename_i v t e
    have ev := of_decide_eq_true h
    subst ev
    exact ⟨_, e, ⟨_, rfl⟩⟩
  · cases h
theorem kD_of {K : PySem.W.Frag} {n s : Str} (b : (kdL K n s).all id = true) : KdC K (He.ga K "Setting") (He.ga K n) s := by
  have at_ : ∀ (i : Nat) (c : Bool), (kdL K n s)[i]? = some c → c = true := fun i c e => List.all_eq_true.mp b c (List.mem_of_getElem? e)
  exact {
    con := conS_ok (by decide +kernel) (at_ 0 _ rfl)
    cv := cvS_ok (at_ 1 _ rfl)
    cr := ⟨at_ 2 _ rfl, He.eqO_ok (at_ 3 _ rfl)⟩
    cc := He.eqO_ok (at_ 4 _ rfl)
    hn := He.eqO_ok (at_ 5 _ rfl)
    tk := of_decide_eq_true (at_ 6 _ rfl)
    mo := of_decide_eq_true (at_ 7 _ rfl)
    kit := of_decide_eq_true (at_ 8 _ rfl) }
theorem kI_of {K : PySem.W.Frag} {a : Ad} (e : a.c_Setting = He.ga K "Setting") (f : a.c_HourSetting = He.ga K "HourSetting") (g : a.c_RestSetting = He.ga K "RestSetting") (b1 : (kdL K "Setting" "plain").all id = true) (b2 : (kdL K "HourSetting" "hours").all id = true) (b3 : (kdL K "RestSetting" "rest").all id = true) (b4 : Hq2.cvalB K (He.ga K "HourSetting") "MAX_LENGTH" 24 = true) : KiC K a := by
  refine ⟨?_, ?_, ?_, ?_⟩
  · rw [e]; exact kD_of b1
  · rw [e, f]; exact kD_of b2
  · rw [e, g]; exact kD_of b3
  · rw [f]
    obtain ⟨t, h⟩ := Hq2.cvalB_ok b4
    exact ⟨_, h⟩
end W6

namespace W6
open PySem PySem.Spec PyProof.Rows L2 Ru StX LamX
theorem sT_of {P : Program} {K : PySem.W.Frag} {h : Heap} {mg : Str → Option Value} {a : Ad} (X : K.In h) (G : h.Ns mainGlobals mg) (b : (stL K).all id = true) (top : (P.main.scope.names.lookup ("super" : Str)).isSome = false) (T : Txt K mg a)
    (e1 : a.c_HourSetting = He.ga K "HourSetting") (e2 : a.c_RestSetting = He.ga K "RestSetting") (e3 : a.f_Setting_lets_switch = He.ma K (He.ga K "Setting") "lets_switch") (e4 : a.f_Weather_getitem = He.ma K (He.ga K "Weather") "__getitem__") (e5 : a.f_Setting_init = He.ma K (He.ga K "Setting") "__init__") (e6 : a.f_Setting_thresholds = He.ma K (He.ga K "Setting") "thresholds")
    (i : ∃ (oc : Value) (od : Option Addr) (osl : Array (Option Value)) (doc pm : Value) (an : Option Addr) (cda cc : Addr) (ct : Value), a.d_RestSetting_init = PySem.W.ksFn "__init__" "RestSetting.__init__" (defArgs s_RestSetting_init) (defBody s_RestSetting_init) (defScope s_RestSetting_init) .none .none doc pm an (.ref cda) ct cc ∧ K.lookup a.f_RestSetting_init = some ⟨oc, od, .func (PySem.W.ksFn "__init__" "RestSetting.__init__" (defArgs s_RestSetting_init) (defBody s_RestSetting_init) (defScope s_RestSetting_init) .none .none doc pm an (.ref cda) ct cc), osl⟩ ∧ PySem.W.codeIn K (.ref cda) "RestSetting.__init__" = true ∧
      (∃ cl cld csl, K.lookup cc = some ⟨cl, cld, .cell (some (.ref (He.ga K "RestSetting"))), csl⟩) ∧ ∃ (ccl : Value) (cdd : Option Addr) (vs : Array Value) (ccs : Array (Option Value)) (tf : Tok), K.lookup cda = some ⟨ccl, cdd, .fields vs, ccs⟩ ∧ vs[2]? = some (.str P.main.file tf))
    (t : ∃ (oc : Value) (od : Option Addr) (osl : Array (Option Value)) (doc pm : Value) (an : Option Addr) (cda cc : Addr) (ct : Value), a.d_RestSetting_thresholds = PySem.W.ksFn "thresholds" "RestSetting.thresholds" (defArgs s_RestSetting_thresholds) (defBody s_RestSetting_thresholds) (defScope s_RestSetting_thresholds) .none .none doc pm an (.ref cda) ct cc ∧ K.lookup a.f_RestSetting_thresholds = some ⟨oc, od, .func (PySem.W.ksFn "thresholds" "RestSetting.thresholds" (defArgs s_RestSetting_thresholds) (defBody s_RestSetting_thresholds) (defScope s_RestSetting_thresholds) .none .none doc pm an (.ref cda) ct cc), osl⟩ ∧ PySem.W.codeIn K (.ref cda) "RestSetting.thresholds" = true ∧
      (∃ cl cld csl, K.lookup cc = some ⟨cl, cld, .cell (some (.ref (He.ga K "RestSetting"))), csl⟩) ∧ ∃ (ccl : Value) (cdd : Option Addr) (vs : Array Value) (ccs : Array (Option Value)) (tf : Tok), K.lookup cda = some ⟨ccl, cdd, .fields vs, ccs⟩ ∧ vs[2]? = some (.str P.main.file tf)) : StC P K mg a := by
  have at_ : ∀ (i : Nat) (c : Bool), (stL K)[i]? = some c → c = true := fun i c e => List.all_eq_true.mp b c (List.mem_of_getElem? e)
  have isC : ∃ cd, PySem.W.clsIn K (He.ga K "RestSetting") = some cd := by
    have q := at_ 6 _ rfl
    cases z : PySem.W.clsIn K (He.ga K "RestSetting") with
    | none => rw [z] at q; cases q
    | some cd => exact ⟨cd, rfl⟩
  have noS := PySem.W.mg_none_of X G (He.eqO_ok (at_ 5 _ rfl))
  refine ⟨by rw [e1, e3]; exact ⟨He.eqO_ok (at_ 0 _ rfl), at_ 1 _ rfl, at_ 2 _ rfl⟩, by rw [e4]; exact at_ 3 _ rfl, ?_, ?_⟩
  · obtain ⟨oc, od, osl, doc, pm, an, cda, cc, ct, e, lk, co, cell, ccl, cdd, vs, ccs, tf, k1, k2⟩ := i
    rw [← e] at lk
    refine ⟨oc, od, osl, doc, pm, an, cda, cc, ct, e, lk, co, by rw [e2]; exact cell, ⟨⟨oc, od, osl, lk⟩, by rw [e2]; exact cell, ⟨ccl, cdd, vs, ccs, _, tf, k1, k2, by simp⟩, He.eqO_ok (at_ 4 _ rfl), noS, top, by rw [e2]; exact isC, by rw [e2]; exact of_decide_eq_true (at_ 7 _ rfl), by rw [e2, e5]; exact He.eqO_ok (at_ 8 _ rfl), by rw [e5]; exact of_decide_eq_true (at_ 10 _ rfl), by rw [e5]; exact at_ 11 _ rfl⟩⟩
  · obtain ⟨oc, od, osl, doc, pm, an, cda, cc, ct, e, lk, co, cell, ccl, cdd, vs, ccs, tf, k1, k2⟩ := t
    rw [← e] at lk
    refine ⟨oc, od, osl, doc, pm, an, cda, cc, ct, e, lk, co, by rw [e2]; exact cell, ⟨⟨oc, od, osl, lk⟩, by rw [e2]; exact cell, ⟨ccl, cdd, vs, ccs, _, tf, k1, k2, by simp⟩, He.eqO_ok (at_ 4 _ rfl), noS, top, by rw [e2]; exact isC, by rw [e2]; exact of_decide_eq_true (at_ 7 _ rfl), by rw [e2, e6]; exact He.eqO_ok (at_ 9 _ rfl), by rw [e6]; exact of_decide_eq_true (at_ 12 _ rfl), by rw [e6]; exact at_ 13 _ rfl⟩⟩
end W6

namespace W6
open PySem PySem.Spec PyProof.Rows L2 Ru StX
theorem h_ns_Weather {h : Heap} {K : PySem.W.Frag} (c : Hq2.Says hS h K) : PySem.W.nsIn K mainGlobals "Weather" = some (some (.ref (He.ga K "Weather"))) := He.eqO_ok (c.fact 0 rfl)
theorem h_pg_Weather {h : Heap} {K : PySem.W.Frag} (c : Hq2.Says hS h K) : PySem.W.plainGet K (He.ga K "Weather") Str.empty = true := id (c.fact 1 rfl)
theorem h_hd_Weather {h : Heap} {K : PySem.W.Frag} (c : Hq2.Says hS h K) : PySem.W.hasDictIn K (He.ga K "Weather") = true := id (c.fact 2 rfl)
theorem h_po_Weather {h : Heap} {K : PySem.W.Frag} (c : Hq2.Says hS h K) : PySem.W.plainOver K (He.ga K "Weather") = true := id (c.fact 3 rfl)
theorem h_sa_Weather {h : Heap} {K : PySem.W.Frag} (c : Hq2.Says hS h K) : PySem.W.findIn K (.ref (He.ga K "Weather")) "__setattr__" = some (some (.builtin "object.__setattr__")) := He.eqO_ok (c.fact 4 rfl)
theorem h_na_Weather__changes {h : Heap} {K : PySem.W.Frag} (c : Hq2.Says hS h K) : PySem.W.findIn K (.ref (He.ga K "Weather")) "_changes" = some none := He.eqO_ok (c.fact 5 rfl)
theorem h_ns_Setting {h : Heap} {K : PySem.W.Frag} (c : Hq2.Says hS h K) : PySem.W.nsIn K mainGlobals "Setting" = some (some (.ref (He.ga K "Setting"))) := He.eqO_ok (c.fact 6 rfl)
theorem h_pg_Setting {h : Heap} {K : PySem.W.Frag} (c : Hq2.Says hS h K) : PySem.W.plainGet K (He.ga K "Setting") Str.empty = true := id (c.fact 7 rfl)
theorem h_hd_Setting {h : Heap} {K : PySem.W.Frag} (c : Hq2.Says hS h K) : PySem.W.hasDictIn K (He.ga K "Setting") = true := id (c.fact 8 rfl)
theorem h_po_Setting {h : Heap} {K : PySem.W.Frag} (c : Hq2.Says hS h K) : PySem.W.plainOver K (He.ga K "Setting") = true := id (c.fact 9 rfl)
theorem h_sa_Setting {h : Heap} {K : PySem.W.Frag} (c : Hq2.Says hS h K) : PySem.W.findIn K (.ref (He.ga K "Setting")) "__setattr__" = some (some (.builtin "object.__setattr__")) := He.eqO_ok (c.fact 10 rfl)
theorem h_na_Setting__low {h : Heap} {K : PySem.W.Frag} (c : Hq2.Says hS h K) : PySem.W.findIn K (.ref (He.ga K "Setting")) "_low" = some none := He.eqO_ok (c.fact 11 rfl)
theorem h_na_Setting__high {h : Heap} {K : PySem.W.Frag} (c : Hq2.Says hS h K) : PySem.W.findIn K (.ref (He.ga K "Setting")) "_high" = some none := He.eqO_ok (c.fact 12 rfl)
theorem h_ns_HourSetting {h : Heap} {K : PySem.W.Frag} (c : Hq2.Says hS h K) : PySem.W.nsIn K mainGlobals "HourSetting" = some (some (.ref (He.ga K "HourSetting"))) := He.eqO_ok (c.fact 13 rfl)
theorem h_pg_HourSetting {h : Heap} {K : PySem.W.Frag} (c : Hq2.Says hS h K) : PySem.W.plainGet K (He.ga K "HourSetting") Str.empty = true := id (c.fact 14 rfl)
theorem h_hd_HourSetting {h : Heap} {K : PySem.W.Frag} (c : Hq2.Says hS h K) : PySem.W.hasDictIn K (He.ga K "HourSetting") = true := id (c.fact 15 rfl)
theorem h_po_HourSetting {h : Heap} {K : PySem.W.Frag} (c : Hq2.Says hS h K) : PySem.W.plainOver K (He.ga K "HourSetting") = true := id (c.fact 16 rfl)
theorem h_sa_HourSetting {h : Heap} {K : PySem.W.Frag} (c : Hq2.Says hS h K) : PySem.W.findIn K (.ref (He.ga K "HourSetting")) "__setattr__" = some (some (.builtin "object.__setattr__")) := He.eqO_ok (c.fact 17 rfl)
theorem h_na_HourSetting__length {h : Heap} {K : PySem.W.Frag} (c : Hq2.Says hS h K) : PySem.W.findIn K (.ref (He.ga K "HourSetting")) "_length" = some none := He.eqO_ok (c.fact 18 rfl)
theorem h_na_HourSetting__parts {h : Heap} {K : PySem.W.Frag} (c : Hq2.Says hS h K) : PySem.W.findIn K (.ref (He.ga K "HourSetting")) "_parts" = some none := He.eqO_ok (c.fact 19 rfl)
theorem h_ns_RestSetting {h : Heap} {K : PySem.W.Frag} (c : Hq2.Says hS h K) : PySem.W.nsIn K mainGlobals "RestSetting" = some (some (.ref (He.ga K "RestSetting"))) := He.eqO_ok (c.fact 20 rfl)
theorem h_pg_RestSetting {h : Heap} {K : PySem.W.Frag} (c : Hq2.Says hS h K) : PySem.W.plainGet K (He.ga K "RestSetting") Str.empty = true := id (c.fact 21 rfl)
theorem h_hd_RestSetting {h : Heap} {K : PySem.W.Frag} (c : Hq2.Says hS h K) : PySem.W.hasDictIn K (He.ga K "RestSetting") = true := id (c.fact 22 rfl)
theorem h_po_RestSetting {h : Heap} {K : PySem.W.Frag} (c : Hq2.Says hS h K) : PySem.W.plainOver K (He.ga K "RestSetting") = true := id (c.fact 23 rfl)
theorem h_sa_RestSetting {h : Heap} {K : PySem.W.Frag} (c : Hq2.Says hS h K) : PySem.W.findIn K (.ref (He.ga K "RestSetting")) "__setattr__" = some (some (.builtin "object.__setattr__")) := He.eqO_ok (c.fact 24 rfl)
theorem h_na_RestSetting__low {h : Heap} {K : PySem.W.Frag} (c : Hq2.Says hS h K) : PySem.W.findIn K (.ref (He.ga K "RestSetting")) "_low" = some none := He.eqO_ok (c.fact 25 rfl)
theorem h_na_RestSetting__high {h : Heap} {K : PySem.W.Frag} (c : Hq2.Says hS h K) : PySem.W.findIn K (.ref (He.ga K "RestSetting")) "_high" = some none := He.eqO_ok (c.fact 26 rfl)
theorem h_na_RestSetting__rest {h : Heap} {K : PySem.W.Frag} (c : Hq2.Says hS h K) : PySem.W.findIn K (.ref (He.ga K "RestSetting")) "_rest" = some none := He.eqO_ok (c.fact 27 rfl)
theorem h_at_first_invalid {h : Heap} {K : PySem.W.Frag} (c : Hq2.Says hS h K) : PySem.W.nsIn K mainGlobals "first_invalid" = some (some (.ref (He.ga K "first_invalid"))) := He.eqO_ok (c.fact 28 rfl)
theorem h_kp_first_invalid {h : Heap} {K : PySem.W.Frag} (c : Hq2.Says hS h K) : PySem.W.keepIn K (.ref (He.ga K "first_invalid")) = true := id (c.fact 29 rfl)
theorem h_at_added_rounds {h : Heap} {K : PySem.W.Frag} (c : Hq2.Says hS h K) : PySem.W.nsIn K mainGlobals "added_rounds" = some (some (.ref (He.ga K "added_rounds"))) := He.eqO_ok (c.fact 30 rfl)
theorem h_kp_added_rounds {h : Heap} {K : PySem.W.Frag} (c : Hq2.Says hS h K) : PySem.W.keepIn K (.ref (He.ga K "added_rounds")) = true := id (c.fact 31 rfl)
theorem h_at_heater_state {h : Heap} {K : PySem.W.Frag} (c : Hq2.Says hS h K) : PySem.W.nsIn K mainGlobals "heater_state" = some (some (.ref (He.ga K "heater_state"))) := He.eqO_ok (c.fact 32 rfl)
theorem h_kp_heater_state {h : Heap} {K : PySem.W.Frag} (c : Hq2.Says hS h K) : PySem.W.keepIn K (.ref (He.ga K "heater_state")) = true := id (c.fact 33 rfl)
theorem h_at_check_number {h : Heap} {K : PySem.W.Frag} (c : Hq2.Says hS h K) : PySem.W.nsIn K mainGlobals "check_number" = some (some (.ref (He.ga K "check_number"))) := He.eqO_ok (c.fact 34 rfl)
theorem h_kp_check_number {h : Heap} {K : PySem.W.Frag} (c : Hq2.Says hS h K) : PySem.W.keepIn K (.ref (He.ga K "check_number")) = true := id (c.fact 35 rfl)
theorem h_at_Weather_init {h : Heap} {K : PySem.W.Frag} (c : Hq2.Says hS h K) : PySem.W.findIn K (.ref (He.ga K "Weather")) "__init__" = some (some (.ref (He.ma K (He.ga K "Weather") "__init__"))) := He.eqO_ok (c.fact 36 rfl)
theorem h_fn_Weather_init {h : Heap} {K : PySem.W.Frag} (c : Hq2.Says hS h K) : PySem.W.isFn K (.ref (He.ma K (He.ga K "Weather") "__init__")) = true := id (c.fact 37 rfl)
theorem h_kp_Weather_init {h : Heap} {K : PySem.W.Frag} (c : Hq2.Says hS h K) : PySem.W.keepIn K (.ref (He.ma K (He.ga K "Weather") "__init__")) = true := id (c.fact 38 rfl)
theorem h_mk_Weather {h : Heap} {K : PySem.W.Frag} (c : Hq2.Says hS h K) : PySem.W.makesIn K (He.ga K "Weather") = true := id (c.fact 39 rfl)
theorem h_kc_Weather {h : Heap} {K : PySem.W.Frag} (c : Hq2.Says hS h K) : PySem.W.keepIn K (.ref (He.ga K "Weather")) = true := id (c.fact 40 rfl)
theorem h_at_Weather_len {h : Heap} {K : PySem.W.Frag} (c : Hq2.Says hS h K) : PySem.W.findIn K (.ref (He.ga K "Weather")) "__len__" = some (some (.ref (He.ma K (He.ga K "Weather") "__len__"))) := He.eqO_ok (c.fact 41 rfl)
theorem h_fn_Weather_len {h : Heap} {K : PySem.W.Frag} (c : Hq2.Says hS h K) : PySem.W.isFn K (.ref (He.ma K (He.ga K "Weather") "__len__")) = true := id (c.fact 42 rfl)
theorem h_kp_Weather_len {h : Heap} {K : PySem.W.Frag} (c : Hq2.Says hS h K) : PySem.W.keepIn K (.ref (He.ma K (He.ga K "Weather") "__len__")) = true := id (c.fact 43 rfl)
theorem h_at_Weather_getitem {h : Heap} {K : PySem.W.Frag} (c : Hq2.Says hS h K) : PySem.W.findIn K (.ref (He.ga K "Weather")) "__getitem__" = some (some (.ref (He.ma K (He.ga K "Weather") "__getitem__"))) := He.eqO_ok (c.fact 44 rfl)
theorem h_fn_Weather_getitem {h : Heap} {K : PySem.W.Frag} (c : Hq2.Says hS h K) : PySem.W.isFn K (.ref (He.ma K (He.ga K "Weather") "__getitem__")) = true := id (c.fact 45 rfl)
theorem h_kp_Weather_getitem {h : Heap} {K : PySem.W.Frag} (c : Hq2.Says hS h K) : PySem.W.keepIn K (.ref (He.ma K (He.ga K "Weather") "__getitem__")) = true := id (c.fact 46 rfl)
theorem h_at_Weather_add {h : Heap} {K : PySem.W.Frag} (c : Hq2.Says hS h K) : PySem.W.findIn K (.ref (He.ga K "Weather")) "__add__" = some (some (.ref (He.ma K (He.ga K "Weather") "__add__"))) := He.eqO_ok (c.fact 47 rfl)
theorem h_fn_Weather_add {h : Heap} {K : PySem.W.Frag} (c : Hq2.Says hS h K) : PySem.W.isFn K (.ref (He.ma K (He.ga K "Weather") "__add__")) = true := id (c.fact 48 rfl)
theorem h_kp_Weather_add {h : Heap} {K : PySem.W.Frag} (c : Hq2.Says hS h K) : PySem.W.keepIn K (.ref (He.ma K (He.ga K "Weather") "__add__")) = true := id (c.fact 49 rfl)
theorem h_at_Weather_mul {h : Heap} {K : PySem.W.Frag} (c : Hq2.Says hS h K) : PySem.W.findIn K (.ref (He.ga K "Weather")) "__mul__" = some (some (.ref (He.ma K (He.ga K "Weather") "__mul__"))) := He.eqO_ok (c.fact 50 rfl)
theorem h_fn_Weather_mul {h : Heap} {K : PySem.W.Frag} (c : Hq2.Says hS h K) : PySem.W.isFn K (.ref (He.ma K (He.ga K "Weather") "__mul__")) = true := id (c.fact 51 rfl)
theorem h_kp_Weather_mul {h : Heap} {K : PySem.W.Frag} (c : Hq2.Says hS h K) : PySem.W.keepIn K (.ref (He.ma K (He.ga K "Weather") "__mul__")) = true := id (c.fact 52 rfl)
theorem h_at_can_be_thresholds {h : Heap} {K : PySem.W.Frag} (c : Hq2.Says hS h K) : PySem.W.nsIn K mainGlobals "can_be_thresholds" = some (some (.ref (He.ga K "can_be_thresholds"))) := He.eqO_ok (c.fact 53 rfl)
theorem h_kp_can_be_thresholds {h : Heap} {K : PySem.W.Frag} (c : Hq2.Says hS h K) : PySem.W.keepIn K (.ref (He.ga K "can_be_thresholds")) = true := id (c.fact 54 rfl)
theorem h_at_Setting_init {h : Heap} {K : PySem.W.Frag} (c : Hq2.Says hS h K) : PySem.W.findIn K (.ref (He.ga K "Setting")) "__init__" = some (some (.ref (He.ma K (He.ga K "Setting") "__init__"))) := He.eqO_ok (c.fact 55 rfl)
theorem h_fn_Setting_init {h : Heap} {K : PySem.W.Frag} (c : Hq2.Says hS h K) : PySem.W.isFn K (.ref (He.ma K (He.ga K "Setting") "__init__")) = true := id (c.fact 56 rfl)
theorem h_kp_Setting_init {h : Heap} {K : PySem.W.Frag} (c : Hq2.Says hS h K) : PySem.W.keepIn K (.ref (He.ma K (He.ga K "Setting") "__init__")) = true := id (c.fact 57 rfl)
theorem h_mk_Setting {h : Heap} {K : PySem.W.Frag} (c : Hq2.Says hS h K) : PySem.W.makesIn K (He.ga K "Setting") = true := id (c.fact 58 rfl)
theorem h_kc_Setting {h : Heap} {K : PySem.W.Frag} (c : Hq2.Says hS h K) : PySem.W.keepIn K (.ref (He.ga K "Setting")) = true := id (c.fact 59 rfl)
theorem h_at_Setting_thresholds {h : Heap} {K : PySem.W.Frag} (c : Hq2.Says hS h K) : PySem.W.findIn K (.ref (He.ga K "Setting")) "thresholds" = some (some (.ref (He.ma K (He.ga K "Setting") "thresholds"))) := He.eqO_ok (c.fact 60 rfl)
theorem h_fn_Setting_thresholds {h : Heap} {K : PySem.W.Frag} (c : Hq2.Says hS h K) : PySem.W.isFn K (.ref (He.ma K (He.ga K "Setting") "thresholds")) = true := id (c.fact 61 rfl)
theorem h_kp_Setting_thresholds {h : Heap} {K : PySem.W.Frag} (c : Hq2.Says hS h K) : PySem.W.keepIn K (.ref (He.ma K (He.ga K "Setting") "thresholds")) = true := id (c.fact 62 rfl)
theorem h_at_Setting_lets_switch {h : Heap} {K : PySem.W.Frag} (c : Hq2.Says hS h K) : PySem.W.findIn K (.ref (He.ga K "Setting")) "lets_switch" = some (some (.ref (He.ma K (He.ga K "Setting") "lets_switch"))) := He.eqO_ok (c.fact 63 rfl)
theorem h_fn_Setting_lets_switch {h : Heap} {K : PySem.W.Frag} (c : Hq2.Says hS h K) : PySem.W.isFn K (.ref (He.ma K (He.ga K "Setting") "lets_switch")) = true := id (c.fact 64 rfl)
theorem h_kp_Setting_lets_switch {h : Heap} {K : PySem.W.Frag} (c : Hq2.Says hS h K) : PySem.W.keepIn K (.ref (He.ma K (He.ga K "Setting") "lets_switch")) = true := id (c.fact 65 rfl)
theorem h_at_HourSetting_init {h : Heap} {K : PySem.W.Frag} (c : Hq2.Says hS h K) : PySem.W.findIn K (.ref (He.ga K "HourSetting")) "__init__" = some (some (.ref (He.ma K (He.ga K "HourSetting") "__init__"))) := He.eqO_ok (c.fact 66 rfl)
theorem h_fn_HourSetting_init {h : Heap} {K : PySem.W.Frag} (c : Hq2.Says hS h K) : PySem.W.isFn K (.ref (He.ma K (He.ga K "HourSetting") "__init__")) = true := id (c.fact 67 rfl)
theorem h_kp_HourSetting_init {h : Heap} {K : PySem.W.Frag} (c : Hq2.Says hS h K) : PySem.W.keepIn K (.ref (He.ma K (He.ga K "HourSetting") "__init__")) = true := id (c.fact 68 rfl)
theorem h_mk_HourSetting {h : Heap} {K : PySem.W.Frag} (c : Hq2.Says hS h K) : PySem.W.makesIn K (He.ga K "HourSetting") = true := id (c.fact 69 rfl)
theorem h_kc_HourSetting {h : Heap} {K : PySem.W.Frag} (c : Hq2.Says hS h K) : PySem.W.keepIn K (.ref (He.ga K "HourSetting")) = true := id (c.fact 70 rfl)
theorem h_at_HourSetting_thresholds {h : Heap} {K : PySem.W.Frag} (c : Hq2.Says hS h K) : PySem.W.findIn K (.ref (He.ga K "HourSetting")) "thresholds" = some (some (.ref (He.ma K (He.ga K "HourSetting") "thresholds"))) := He.eqO_ok (c.fact 71 rfl)
theorem h_fn_HourSetting_thresholds {h : Heap} {K : PySem.W.Frag} (c : Hq2.Says hS h K) : PySem.W.isFn K (.ref (He.ma K (He.ga K "HourSetting") "thresholds")) = true := id (c.fact 72 rfl)
theorem h_kp_HourSetting_thresholds {h : Heap} {K : PySem.W.Frag} (c : Hq2.Says hS h K) : PySem.W.keepIn K (.ref (He.ma K (He.ga K "HourSetting") "thresholds")) = true := id (c.fact 73 rfl)
theorem h_at_RestSetting_init {h : Heap} {K : PySem.W.Frag} (c : Hq2.Says hS h K) : PySem.W.findIn K (.ref (He.ga K "RestSetting")) "__init__" = some (some (.ref (He.ma K (He.ga K "RestSetting") "__init__"))) := He.eqO_ok (c.fact 74 rfl)
theorem h_fn_RestSetting_init {h : Heap} {K : PySem.W.Frag} (c : Hq2.Says hS h K) : PySem.W.isFn K (.ref (He.ma K (He.ga K "RestSetting") "__init__")) = true := id (c.fact 75 rfl)
theorem h_kp_RestSetting_init {h : Heap} {K : PySem.W.Frag} (c : Hq2.Says hS h K) : PySem.W.keepIn K (.ref (He.ma K (He.ga K "RestSetting") "__init__")) = true := id (c.fact 76 rfl)
theorem h_mk_RestSetting {h : Heap} {K : PySem.W.Frag} (c : Hq2.Says hS h K) : PySem.W.makesIn K (He.ga K "RestSetting") = true := id (c.fact 77 rfl)
theorem h_kc_RestSetting {h : Heap} {K : PySem.W.Frag} (c : Hq2.Says hS h K) : PySem.W.keepIn K (.ref (He.ga K "RestSetting")) = true := id (c.fact 78 rfl)
theorem h_at_RestSetting_thresholds {h : Heap} {K : PySem.W.Frag} (c : Hq2.Says hS h K) : PySem.W.findIn K (.ref (He.ga K "RestSetting")) "thresholds" = some (some (.ref (He.ma K (He.ga K "RestSetting") "thresholds"))) := He.eqO_ok (c.fact 79 rfl)
theorem h_fn_RestSetting_thresholds {h : Heap} {K : PySem.W.Frag} (c : Hq2.Says hS h K) : PySem.W.isFn K (.ref (He.ma K (He.ga K "RestSetting") "thresholds")) = true := id (c.fact 80 rfl)
theorem h_kp_RestSetting_thresholds {h : Heap} {K : PySem.W.Frag} (c : Hq2.Says hS h K) : PySem.W.keepIn K (.ref (He.ma K (He.ga K "RestSetting") "thresholds")) = true := id (c.fact 81 rfl)
theorem h_at_RestSetting_lets_switch {h : Heap} {K : PySem.W.Frag} (c : Hq2.Says hS h K) : PySem.W.findIn K (.ref (He.ga K "RestSetting")) "lets_switch" = some (some (.ref (He.ma K (He.ga K "RestSetting") "lets_switch"))) := He.eqO_ok (c.fact 82 rfl)
theorem h_fn_RestSetting_lets_switch {h : Heap} {K : PySem.W.Frag} (c : Hq2.Says hS h K) : PySem.W.isFn K (.ref (He.ma K (He.ga K "RestSetting") "lets_switch")) = true := id (c.fact 83 rfl)
theorem h_kp_RestSetting_lets_switch {h : Heap} {K : PySem.W.Frag} (c : Hq2.Says hS h K) : PySem.W.keepIn K (.ref (He.ma K (He.ga K "RestSetting") "lets_switch")) = true := id (c.fact 84 rfl)
theorem h_at_first_invalid_part {h : Heap} {K : PySem.W.Frag} (c : Hq2.Says hS h K) : PySem.W.nsIn K mainGlobals "first_invalid_part" = some (some (.ref (He.ga K "first_invalid_part"))) := He.eqO_ok (c.fact 85 rfl)
theorem h_kp_first_invalid_part {h : Heap} {K : PySem.W.Frag} (c : Hq2.Says hS h K) : PySem.W.keepIn K (.ref (He.ga K "first_invalid_part")) = true := id (c.fact 86 rfl)
theorem h_at_watch {h : Heap} {K : PySem.W.Frag} (c : Hq2.Says hS h K) : PySem.W.nsIn K mainGlobals "watch" = some (some (.ref (He.ga K "watch"))) := He.eqO_ok (c.fact 87 rfl)
theorem h_kp_watch {h : Heap} {K : PySem.W.Frag} (c : Hq2.Says hS h K) : PySem.W.keepIn K (.ref (He.ga K "watch")) = true := id (c.fact 88 rfl)
theorem h_at_totals {h : Heap} {K : PySem.W.Frag} (c : Hq2.Says hS h K) : PySem.W.nsIn K mainGlobals "totals" = some (some (.ref (He.ga K "totals"))) := He.eqO_ok (c.fact 89 rfl)
theorem h_kp_totals {h : Heap} {K : PySem.W.Frag} (c : Hq2.Says hS h K) : PySem.W.keepIn K (.ref (He.ga K "totals")) = true := id (c.fact 90 rfl)
theorem h_at__law_start {h : Heap} {K : PySem.W.Frag} (c : Hq2.Says hS h K) : PySem.W.nsIn K mainGlobals "_law_start" = some (some (.ref (He.ga K "_law_start"))) := He.eqO_ok (c.fact 91 rfl)
theorem h_kp__law_start {h : Heap} {K : PySem.W.Frag} (c : Hq2.Says hS h K) : PySem.W.keepIn K (.ref (He.ga K "_law_start")) = true := id (c.fact 92 rfl)
theorem h_at__law_drawn {h : Heap} {K : PySem.W.Frag} (c : Hq2.Says hS h K) : PySem.W.nsIn K mainGlobals "_law_drawn" = some (some (.ref (He.ga K "_law_drawn"))) := He.eqO_ok (c.fact 93 rfl)
theorem h_kp__law_drawn {h : Heap} {K : PySem.W.Frag} (c : Hq2.Says hS h K) : PySem.W.keepIn K (.ref (He.ga K "_law_drawn")) = true := id (c.fact 94 rfl)
theorem h_at__law_same {h : Heap} {K : PySem.W.Frag} (c : Hq2.Says hS h K) : PySem.W.nsIn K mainGlobals "_law_same" = some (some (.ref (He.ga K "_law_same"))) := He.eqO_ok (c.fact 95 rfl)
theorem h_kp__law_same {h : Heap} {K : PySem.W.Frag} (c : Hq2.Says hS h K) : PySem.W.keepIn K (.ref (He.ga K "_law_same")) = true := id (c.fact 96 rfl)
theorem h_at__law_outcome {h : Heap} {K : PySem.W.Frag} (c : Hq2.Says hS h K) : PySem.W.nsIn K mainGlobals "_law_outcome" = some (some (.ref (He.ga K "_law_outcome"))) := He.eqO_ok (c.fact 97 rfl)
theorem h_kp__law_outcome {h : Heap} {K : PySem.W.Frag} (c : Hq2.Says hS h K) : PySem.W.keepIn K (.ref (He.ga K "_law_outcome")) = true := id (c.fact 98 rfl)
theorem h_at__law_changes {h : Heap} {K : PySem.W.Frag} (c : Hq2.Says hS h K) : PySem.W.nsIn K mainGlobals "_law_changes" = some (some (.ref (He.ga K "_law_changes"))) := He.eqO_ok (c.fact 99 rfl)
theorem h_kp__law_changes {h : Heap} {K : PySem.W.Frag} (c : Hq2.Says hS h K) : PySem.W.keepIn K (.ref (He.ga K "_law_changes")) = true := id (c.fact 100 rfl)
theorem h_at__law_weather {h : Heap} {K : PySem.W.Frag} (c : Hq2.Says hS h K) : PySem.W.nsIn K mainGlobals "_law_weather" = some (some (.ref (He.ga K "_law_weather"))) := He.eqO_ok (c.fact 101 rfl)
theorem h_kp__law_weather {h : Heap} {K : PySem.W.Frag} (c : Hq2.Says hS h K) : PySem.W.keepIn K (.ref (He.ga K "_law_weather")) = true := id (c.fact 102 rfl)
theorem h_at__law_single {h : Heap} {K : PySem.W.Frag} (c : Hq2.Says hS h K) : PySem.W.nsIn K mainGlobals "_law_single" = some (some (.ref (He.ga K "_law_single"))) := He.eqO_ok (c.fact 103 rfl)
theorem h_kp__law_single {h : Heap} {K : PySem.W.Frag} (c : Hq2.Says hS h K) : PySem.W.keepIn K (.ref (He.ga K "_law_single")) = true := id (c.fact 104 rfl)
theorem h_at__law_parts {h : Heap} {K : PySem.W.Frag} (c : Hq2.Says hS h K) : PySem.W.nsIn K mainGlobals "_law_parts" = some (some (.ref (He.ga K "_law_parts"))) := He.eqO_ok (c.fact 105 rfl)
theorem h_kp__law_parts {h : Heap} {K : PySem.W.Frag} (c : Hq2.Says hS h K) : PySem.W.keepIn K (.ref (He.ga K "_law_parts")) = true := id (c.fact 106 rfl)
theorem h_at__law_setting {h : Heap} {K : PySem.W.Frag} (c : Hq2.Says hS h K) : PySem.W.nsIn K mainGlobals "_law_setting" = some (some (.ref (He.ga K "_law_setting"))) := He.eqO_ok (c.fact 107 rfl)
theorem h_kp__law_setting {h : Heap} {K : PySem.W.Frag} (c : Hq2.Says hS h K) : PySem.W.keepIn K (.ref (He.ga K "_law_setting")) = true := id (c.fact 108 rfl)
theorem h_at__law_watched {h : Heap} {K : PySem.W.Frag} (c : Hq2.Says hS h K) : PySem.W.nsIn K mainGlobals "_law_watched" = some (some (.ref (He.ga K "_law_watched"))) := He.eqO_ok (c.fact 109 rfl)
theorem h_kp__law_watched {h : Heap} {K : PySem.W.Frag} (c : Hq2.Says hS h K) : PySem.W.keepIn K (.ref (He.ga K "_law_watched")) = true := id (c.fact 110 rfl)
theorem h_at__law_refused {h : Heap} {K : PySem.W.Frag} (c : Hq2.Says hS h K) : PySem.W.nsIn K mainGlobals "_law_refused" = some (some (.ref (He.ga K "_law_refused"))) := He.eqO_ok (c.fact 111 rfl)
theorem h_kp__law_refused {h : Heap} {K : PySem.W.Frag} (c : Hq2.Says hS h K) : PySem.W.keepIn K (.ref (He.ga K "_law_refused")) = true := id (c.fact 112 rfl)
theorem h_at_law {h : Heap} {K : PySem.W.Frag} (c : Hq2.Says hS h K) : PySem.W.nsIn K mainGlobals "law" = some (some (.ref (He.ga K "law"))) := He.eqO_ok (c.fact 113 rfl)
theorem h_kp_law {h : Heap} {K : PySem.W.Frag} (c : Hq2.Says hS h K) : PySem.W.keepIn K (.ref (He.ga K "law")) = true := id (c.fact 114 rfl)
theorem h_at_Weather_changes {h : Heap} {K : PySem.W.Frag} (c : Hq2.Says hS h K) : PySem.W.findIn K (.ref (He.ga K "Weather")) "changes" = some (some (.ref (He.ma K (He.ga K "Weather") "changes"))) := He.eqO_ok (c.fact 115 rfl)
theorem h_gt_Weather_changes {h : Heap} {K : PySem.W.Frag} (c : Hq2.Says hS h K) : PySem.W.specialIn K (.ref (He.ma K (He.ga K "Weather") "changes")) "__get__" = some (some (.builtin "property.__get__")) := He.eqO_ok (c.fact 116 rfl)
theorem h_tk_Weather_changes {h : Heap} {K : PySem.W.Frag} (c : Hq2.Says hS h K) : PySem.W.takesIn K (.ref (He.ma K (He.ga K "Weather") "changes")) = some true := of_decide_eq_true (c.fact 117 rfl)
theorem h_rc_Weather_changes {h : Heap} {K : PySem.W.Frag} (c : Hq2.Says hS h K) : PySem.W.recIn K (He.ma K (He.ga K "Weather") "changes") "property" = some (.ref (Hq.gtA K (He.ma K (He.ga K "Weather") "changes")) :: Hq.gtR K (He.ma K (He.ga K "Weather") "changes")) := Hq.gtB_ok (c.fact 118 rfl)
theorem h_kp_Weather_changes {h : Heap} {K : PySem.W.Frag} (c : Hq2.Says hS h K) : PySem.W.keepIn K (.ref (Hq.gtA K (He.ma K (He.ga K "Weather") "changes"))) = true := id (c.fact 119 rfl)
theorem h_gl_MOST_TICKS {h : Heap} {K : PySem.W.Frag} (c : Hq2.Says hS h K) : ∃ t, PySem.W.nsIn K mainGlobals "MOST_TICKS" = some (some (.int 1000000000000000000 t)) := Hq.inB_ok (c.fact 120 rfl)
theorem h_gl_MOST_GAIN {h : Heap} {K : PySem.W.Frag} (c : Hq2.Says hS h K) : ∃ t, PySem.W.nsIn K mainGlobals "MOST_GAIN" = some (some (.int 200 t)) := Hq.inB_ok (c.fact 121 rfl)
theorem h_gl_MOST_DEGREES {h : Heap} {K : PySem.W.Frag} (c : Hq2.Says hS h K) : ∃ t, PySem.W.nsIn K mainGlobals "MOST_DEGREES" = some (some (.int 1000000000000 t)) := Hq.inB_ok (c.fact 122 rfl)
theorem h_gl_MOST_REST {h : Heap} {K : PySem.W.Frag} (c : Hq2.Says hS h K) : ∃ t, PySem.W.nsIn K mainGlobals "MOST_REST" = some (some (.int 1000 t)) := Hq.inB_ok (c.fact 123 rfl)
theorem h_gl_MOST_WATCHED {h : Heap} {K : PySem.W.Frag} (c : Hq2.Says hS h K) : ∃ t, PySem.W.nsIn K mainGlobals "MOST_WATCHED" = some (some (.int 10000 t)) := Hq.inB_ok (c.fact 124 rfl)
theorem h_gl_lcm {h : Heap} {K : PySem.W.Frag} (c : Hq2.Says hS h K) : PySem.W.nsIn K mainGlobals "lcm" = some (some (.builtin "math.lcm")) := He.eqO_ok (c.fact 125 rfl)
theorem h_z_bool {h : Heap} {K : PySem.W.Frag} (c : Hq2.Says hS h K) : PySem.W.nsIn K mainGlobals "bool" = some none := He.eqO_ok (c.fact 126 rfl)
theorem h_z_enumerate {h : Heap} {K : PySem.W.Frag} (c : Hq2.Says hS h K) : PySem.W.nsIn K mainGlobals "enumerate" = some none := He.eqO_ok (c.fact 127 rfl)
theorem h_z_int {h : Heap} {K : PySem.W.Frag} (c : Hq2.Says hS h K) : PySem.W.nsIn K mainGlobals "int" = some none := He.eqO_ok (c.fact 128 rfl)
theorem h_z_isinstance {h : Heap} {K : PySem.W.Frag} (c : Hq2.Says hS h K) : PySem.W.nsIn K mainGlobals "isinstance" = some none := He.eqO_ok (c.fact 129 rfl)
theorem h_z_len {h : Heap} {K : PySem.W.Frag} (c : Hq2.Says hS h K) : PySem.W.nsIn K mainGlobals "len" = some none := He.eqO_ok (c.fact 130 rfl)
theorem h_z_list {h : Heap} {K : PySem.W.Frag} (c : Hq2.Says hS h K) : PySem.W.nsIn K mainGlobals "list" = some none := He.eqO_ok (c.fact 131 rfl)
theorem h_z_min {h : Heap} {K : PySem.W.Frag} (c : Hq2.Says hS h K) : PySem.W.nsIn K mainGlobals "min" = some none := He.eqO_ok (c.fact 132 rfl)
theorem h_z_range {h : Heap} {K : PySem.W.Frag} (c : Hq2.Says hS h K) : PySem.W.nsIn K mainGlobals "range" = some none := He.eqO_ok (c.fact 133 rfl)
theorem h_z_tuple {h : Heap} {K : PySem.W.Frag} (c : Hq2.Says hS h K) : PySem.W.nsIn K mainGlobals "tuple" = some none := He.eqO_ok (c.fact 134 rfl)
theorem h_cv_HourSetting_MAX_LENGTH {h : Heap} {K : PySem.W.Frag} (c : Hq2.Says hS h K) : ∃ t, PySem.W.findIn K (.ref (He.ga K "HourSetting")) "MAX_LENGTH" = some (some (.int 24 t)) ∧ PySem.W.specialIn K (.int 24 t) "__get__" = some none := Hq.cvB_ok (c.fact 135 rfl)
theorem h_cv_Weather_MAX_CHANGE {h : Heap} {K : PySem.W.Frag} (c : Hq2.Says hS h K) : ∃ t, PySem.W.findIn K (.ref (He.ga K "Weather")) "MAX_CHANGE" = some (some (.int 100 t)) ∧ PySem.W.specialIn K (.int 100 t) "__get__" = some none := Hq.cvB_ok (c.fact 136 rfl)
theorem h_cv_Weather_MAX_TICKS {h : Heap} {K : PySem.W.Frag} (c : Hq2.Says hS h K) : ∃ t, PySem.W.findIn K (.ref (He.ga K "Weather")) "MAX_TICKS" = some (some (.int 24 t)) ∧ PySem.W.specialIn K (.int 24 t) "__get__" = some none := Hq.cvB_ok (c.fact 137 rfl)
theorem h_epn {h : Heap} {K : PySem.W.Frag} (c : Hq2.Says hS h K) : (epL K "InvalidNumber").all id = true := id (c.fact 138 rfl)
theorem h_eix {h : Heap} {K : PySem.W.Frag} (c : Hq2.Says hS h K) : (eiL K "InvalidSetting" "InvalidSetting.__init__" hR.prog.main.file).all id = true := id (c.fact 139 rfl)
theorem h_x1 {h : Heap} {K : PySem.W.Frag} (c : Hq2.Says hS h K) : xmB K "InvalidNumber" "InvalidNumber" true = true := id (c.fact 140 rfl)
theorem h_x2 {h : Heap} {K : PySem.W.Frag} (c : Hq2.Says hS h K) : xmB K "InvalidSetting" "InvalidNumber" false = true := id (c.fact 141 rfl)
theorem h_x3 {h : Heap} {K : PySem.W.Frag} (c : Hq2.Says hS h K) : xmB K "InvalidSetting" "InvalidSetting" true = true := id (c.fact 142 rfl)
theorem h_wm {h : Heap} {K : PySem.W.Frag} (c : Hq2.Says hS h K) : (wmL K).all id = true := id (c.fact 143 rfl)
theorem h_st {h : Heap} {K : PySem.W.Frag} (c : Hq2.Says hS h K) : (stL K).all id = true := id (c.fact 144 rfl)
theorem h_kp {h : Heap} {K : PySem.W.Frag} (c : Hq2.Says hS h K) : (kdL K "Setting" "plain").all id = true := id (c.fact 145 rfl)
theorem h_kh {h : Heap} {K : PySem.W.Frag} (c : Hq2.Says hS h K) : (kdL K "HourSetting" "hours").all id = true := id (c.fact 146 rfl)
theorem h_kr {h : Heap} {K : PySem.W.Frag} (c : Hq2.Says hS h K) : (kdL K "RestSetting" "rest").all id = true := id (c.fact 147 rfl)
theorem h_km {h : Heap} {K : PySem.W.Frag} (c : Hq2.Says hS h K) : Hq2.cvalB K (He.ga K "HourSetting") "MAX_LENGTH" 24 = true := id (c.fact 148 rfl)
theorem h_ns {h : Heap} {K : PySem.W.Frag} (c : Hq2.Says hS h K) : nsB K = true := id (c.fact 149 rfl)
theorem h_co_RestSetting_init {h : Heap} {K : PySem.W.Frag} (c : Hq2.Says hS h K) : Hq.coB K (He.ma K (He.ga K "RestSetting") "__init__") "RestSetting.__init__" = true := c.fact 150 rfl
theorem h_cc_RestSetting_init {h : Heap} {K : PySem.W.Frag} (c : Hq2.Says hS h K) : Hq2.ccB K (He.ma K (He.ga K "RestSetting") "__init__") (He.ga K "RestSetting") = true := c.fact 151 rfl
theorem h_fl_RestSetting_init {h : Heap} {K : PySem.W.Frag} (c : Hq2.Says hS h K) : Hq2.flB K (He.ma K (He.ga K "RestSetting") "__init__") hR.prog.main.file = true := c.fact 152 rfl
theorem h_def_RestSetting_init {h : Heap} {K : PySem.W.Frag} (c : Hq2.Says hS h K) : Hq2.moX K (He.ma K (He.ga K "RestSetting") "__init__") = Hq2.mvX "__init__" "RestSetting.__init__" s_RestSetting_init := c.fx 1 rfl
theorem h_co_RestSetting_thresholds {h : Heap} {K : PySem.W.Frag} (c : Hq2.Says hS h K) : Hq.coB K (He.ma K (He.ga K "RestSetting") "thresholds") "RestSetting.thresholds" = true := c.fact 153 rfl
theorem h_cc_RestSetting_thresholds {h : Heap} {K : PySem.W.Frag} (c : Hq2.Says hS h K) : Hq2.ccB K (He.ma K (He.ga K "RestSetting") "thresholds") (He.ga K "RestSetting") = true := c.fact 154 rfl
theorem h_fl_RestSetting_thresholds {h : Heap} {K : PySem.W.Frag} (c : Hq2.Says hS h K) : Hq2.flB K (He.ma K (He.ga K "RestSetting") "thresholds") hR.prog.main.file = true := c.fact 155 rfl
theorem h_def_RestSetting_thresholds {h : Heap} {K : PySem.W.Frag} (c : Hq2.Says hS h K) : Hq2.moX K (He.ma K (He.ga K "RestSetting") "thresholds") = Hq2.mvX "thresholds" "RestSetting.thresholds" s_RestSetting_thresholds := c.fx 2 rfl
theorem h_def_first_invalid {h : Heap} {K : PySem.W.Frag} (c : Hq2.Says hS h K) : Hq.mo K (He.ga K "first_invalid") = Hq.mv "first_invalid" "first_invalid" s_first_invalid := c.fn 0 rfl
theorem h_co_first_invalid {h : Heap} {K : PySem.W.Frag} (c : Hq2.Says hS h K) : Hq.coB K (He.ga K "first_invalid") "first_invalid" = true := c.fact 156 rfl
theorem h_def_added_rounds {h : Heap} {K : PySem.W.Frag} (c : Hq2.Says hS h K) : Hq.mo K (He.ga K "added_rounds") = Hq.mv "added_rounds" "added_rounds" s_added_rounds := c.fn 1 rfl
theorem h_co_added_rounds {h : Heap} {K : PySem.W.Frag} (c : Hq2.Says hS h K) : Hq.coB K (He.ga K "added_rounds") "added_rounds" = true := c.fact 157 rfl
theorem h_def_heater_state {h : Heap} {K : PySem.W.Frag} (c : Hq2.Says hS h K) : Hq.mo K (He.ga K "heater_state") = Hq.mv "heater_state" "heater_state" s_heater_state := c.fn 2 rfl
theorem h_co_heater_state {h : Heap} {K : PySem.W.Frag} (c : Hq2.Says hS h K) : Hq.coB K (He.ga K "heater_state") "heater_state" = true := c.fact 158 rfl
theorem h_def_check_number {h : Heap} {K : PySem.W.Frag} (c : Hq2.Says hS h K) : Hq.mo K (He.ga K "check_number") = Hq.mv "check_number" "check_number" s_check_number := c.fn 3 rfl
theorem h_co_check_number {h : Heap} {K : PySem.W.Frag} (c : Hq2.Says hS h K) : Hq.coB K (He.ga K "check_number") "check_number" = true := c.fact 159 rfl
theorem h_def_Weather_init {h : Heap} {K : PySem.W.Frag} (c : Hq2.Says hS h K) : Hq.mo K (He.ma K (He.ga K "Weather") "__init__") = Hq.mv "__init__" "Weather.__init__" s_Weather_init := c.fn 4 rfl
theorem h_co_Weather_init {h : Heap} {K : PySem.W.Frag} (c : Hq2.Says hS h K) : Hq.coB K (He.ma K (He.ga K "Weather") "__init__") "Weather.__init__" = true := c.fact 160 rfl
theorem h_def_Weather_len {h : Heap} {K : PySem.W.Frag} (c : Hq2.Says hS h K) : Hq.mo K (He.ma K (He.ga K "Weather") "__len__") = Hq.mv "__len__" "Weather.__len__" s_Weather_len := c.fn 5 rfl
theorem h_co_Weather_len {h : Heap} {K : PySem.W.Frag} (c : Hq2.Says hS h K) : Hq.coB K (He.ma K (He.ga K "Weather") "__len__") "Weather.__len__" = true := c.fact 161 rfl
theorem h_def_Weather_getitem {h : Heap} {K : PySem.W.Frag} (c : Hq2.Says hS h K) : Hq.mo K (He.ma K (He.ga K "Weather") "__getitem__") = Hq.mv "__getitem__" "Weather.__getitem__" s_Weather_getitem := c.fn 6 rfl
theorem h_co_Weather_getitem {h : Heap} {K : PySem.W.Frag} (c : Hq2.Says hS h K) : Hq.coB K (He.ma K (He.ga K "Weather") "__getitem__") "Weather.__getitem__" = true := c.fact 162 rfl
theorem h_def_Weather_add {h : Heap} {K : PySem.W.Frag} (c : Hq2.Says hS h K) : Hq.mo K (He.ma K (He.ga K "Weather") "__add__") = Hq.mv "__add__" "Weather.__add__" s_Weather_add := c.fn 7 rfl
theorem h_co_Weather_add {h : Heap} {K : PySem.W.Frag} (c : Hq2.Says hS h K) : Hq.coB K (He.ma K (He.ga K "Weather") "__add__") "Weather.__add__" = true := c.fact 163 rfl
theorem h_def_Weather_mul {h : Heap} {K : PySem.W.Frag} (c : Hq2.Says hS h K) : Hq.mo K (He.ma K (He.ga K "Weather") "__mul__") = Hq.mv "__mul__" "Weather.__mul__" s_Weather_mul := c.fn 8 rfl
theorem h_co_Weather_mul {h : Heap} {K : PySem.W.Frag} (c : Hq2.Says hS h K) : Hq.coB K (He.ma K (He.ga K "Weather") "__mul__") "Weather.__mul__" = true := c.fact 164 rfl
theorem h_def_can_be_thresholds {h : Heap} {K : PySem.W.Frag} (c : Hq2.Says hS h K) : Hq.mo K (He.ga K "can_be_thresholds") = Hq.mv "can_be_thresholds" "can_be_thresholds" s_can_be_thresholds := c.fn 9 rfl
theorem h_co_can_be_thresholds {h : Heap} {K : PySem.W.Frag} (c : Hq2.Says hS h K) : Hq.coB K (He.ga K "can_be_thresholds") "can_be_thresholds" = true := c.fact 165 rfl
theorem h_def_Setting_init {h : Heap} {K : PySem.W.Frag} (c : Hq2.Says hS h K) : Hq.mo K (He.ma K (He.ga K "Setting") "__init__") = Hq.mv "__init__" "Setting.__init__" s_Setting_init := c.fn 10 rfl
theorem h_co_Setting_init {h : Heap} {K : PySem.W.Frag} (c : Hq2.Says hS h K) : Hq.coB K (He.ma K (He.ga K "Setting") "__init__") "Setting.__init__" = true := c.fact 166 rfl
theorem h_def_Setting_thresholds {h : Heap} {K : PySem.W.Frag} (c : Hq2.Says hS h K) : Hq.mo K (He.ma K (He.ga K "Setting") "thresholds") = Hq.mv "thresholds" "Setting.thresholds" s_Setting_thresholds := c.fn 11 rfl
theorem h_co_Setting_thresholds {h : Heap} {K : PySem.W.Frag} (c : Hq2.Says hS h K) : Hq.coB K (He.ma K (He.ga K "Setting") "thresholds") "Setting.thresholds" = true := c.fact 167 rfl
theorem h_def_Setting_lets_switch {h : Heap} {K : PySem.W.Frag} (c : Hq2.Says hS h K) : Hq.mo K (He.ma K (He.ga K "Setting") "lets_switch") = Hq.mv "lets_switch" "Setting.lets_switch" s_Setting_lets_switch := c.fn 12 rfl
theorem h_co_Setting_lets_switch {h : Heap} {K : PySem.W.Frag} (c : Hq2.Says hS h K) : Hq.coB K (He.ma K (He.ga K "Setting") "lets_switch") "Setting.lets_switch" = true := c.fact 168 rfl
theorem h_def_HourSetting_init {h : Heap} {K : PySem.W.Frag} (c : Hq2.Says hS h K) : Hq.mo K (He.ma K (He.ga K "HourSetting") "__init__") = Hq.mv "__init__" "HourSetting.__init__" s_HourSetting_init := c.fn 13 rfl
theorem h_co_HourSetting_init {h : Heap} {K : PySem.W.Frag} (c : Hq2.Says hS h K) : Hq.coB K (He.ma K (He.ga K "HourSetting") "__init__") "HourSetting.__init__" = true := c.fact 169 rfl
theorem h_def_HourSetting_thresholds {h : Heap} {K : PySem.W.Frag} (c : Hq2.Says hS h K) : Hq.mo K (He.ma K (He.ga K "HourSetting") "thresholds") = Hq.mv "thresholds" "HourSetting.thresholds" s_HourSetting_thresholds := c.fn 14 rfl
theorem h_co_HourSetting_thresholds {h : Heap} {K : PySem.W.Frag} (c : Hq2.Says hS h K) : Hq.coB K (He.ma K (He.ga K "HourSetting") "thresholds") "HourSetting.thresholds" = true := c.fact 170 rfl
theorem h_def_RestSetting_lets_switch {h : Heap} {K : PySem.W.Frag} (c : Hq2.Says hS h K) : Hq.mo K (He.ma K (He.ga K "RestSetting") "lets_switch") = Hq.mv "lets_switch" "RestSetting.lets_switch" s_RestSetting_lets_switch := c.fn 15 rfl
theorem h_co_RestSetting_lets_switch {h : Heap} {K : PySem.W.Frag} (c : Hq2.Says hS h K) : Hq.coB K (He.ma K (He.ga K "RestSetting") "lets_switch") "RestSetting.lets_switch" = true := c.fact 171 rfl
theorem h_def_first_invalid_part {h : Heap} {K : PySem.W.Frag} (c : Hq2.Says hS h K) : Hq.mo K (He.ga K "first_invalid_part") = Hq.mv "first_invalid_part" "first_invalid_part" s_first_invalid_part := c.fn 16 rfl
theorem h_co_first_invalid_part {h : Heap} {K : PySem.W.Frag} (c : Hq2.Says hS h K) : Hq.coB K (He.ga K "first_invalid_part") "first_invalid_part" = true := c.fact 172 rfl
theorem h_def_watch {h : Heap} {K : PySem.W.Frag} (c : Hq2.Says hS h K) : Hq.mo K (He.ga K "watch") = Hq.mv "watch" "watch" s_watch := c.fn 17 rfl
theorem h_co_watch {h : Heap} {K : PySem.W.Frag} (c : Hq2.Says hS h K) : Hq.coB K (He.ga K "watch") "watch" = true := c.fact 173 rfl
theorem h_def_totals {h : Heap} {K : PySem.W.Frag} (c : Hq2.Says hS h K) : Hq.mo K (He.ga K "totals") = Hq.mv "totals" "totals" s_totals := c.fn 18 rfl
theorem h_co_totals {h : Heap} {K : PySem.W.Frag} (c : Hq2.Says hS h K) : Hq.coB K (He.ga K "totals") "totals" = true := c.fact 174 rfl
theorem h_def__law_start {h : Heap} {K : PySem.W.Frag} (c : Hq2.Says hS h K) : Hq.mo K (He.ga K "_law_start") = Hq.mv "_law_start" "_law_start" s__law_start := c.fn 19 rfl
theorem h_co__law_start {h : Heap} {K : PySem.W.Frag} (c : Hq2.Says hS h K) : Hq.coB K (He.ga K "_law_start") "_law_start" = true := c.fact 175 rfl
theorem h_def__law_drawn {h : Heap} {K : PySem.W.Frag} (c : Hq2.Says hS h K) : Hq.mo K (He.ga K "_law_drawn") = Hq.mv "_law_drawn" "_law_drawn" s__law_drawn := c.fn 20 rfl
theorem h_co__law_drawn {h : Heap} {K : PySem.W.Frag} (c : Hq2.Says hS h K) : Hq.coB K (He.ga K "_law_drawn") "_law_drawn" = true := c.fact 176 rfl
theorem h_def__law_same {h : Heap} {K : PySem.W.Frag} (c : Hq2.Says hS h K) : Hq.mo K (He.ga K "_law_same") = Hq.mv "_law_same" "_law_same" s__law_same := c.fn 21 rfl
theorem h_co__law_same {h : Heap} {K : PySem.W.Frag} (c : Hq2.Says hS h K) : Hq.coB K (He.ga K "_law_same") "_law_same" = true := c.fact 177 rfl
theorem h_def__law_outcome {h : Heap} {K : PySem.W.Frag} (c : Hq2.Says hS h K) : Hq.mo K (He.ga K "_law_outcome") = Hq.mv "_law_outcome" "_law_outcome" s__law_outcome := c.fn 22 rfl
theorem h_co__law_outcome {h : Heap} {K : PySem.W.Frag} (c : Hq2.Says hS h K) : Hq.coB K (He.ga K "_law_outcome") "_law_outcome" = true := c.fact 178 rfl
theorem h_def__law_changes {h : Heap} {K : PySem.W.Frag} (c : Hq2.Says hS h K) : Hq.mo K (He.ga K "_law_changes") = Hq.mv "_law_changes" "_law_changes" s__law_changes := c.fn 23 rfl
theorem h_co__law_changes {h : Heap} {K : PySem.W.Frag} (c : Hq2.Says hS h K) : Hq.coB K (He.ga K "_law_changes") "_law_changes" = true := c.fact 179 rfl
theorem h_def__law_weather {h : Heap} {K : PySem.W.Frag} (c : Hq2.Says hS h K) : Hq.mo K (He.ga K "_law_weather") = Hq.mv "_law_weather" "_law_weather" s__law_weather := c.fn 24 rfl
theorem h_co__law_weather {h : Heap} {K : PySem.W.Frag} (c : Hq2.Says hS h K) : Hq.coB K (He.ga K "_law_weather") "_law_weather" = true := c.fact 180 rfl
theorem h_def__law_single {h : Heap} {K : PySem.W.Frag} (c : Hq2.Says hS h K) : Hq.mo K (He.ga K "_law_single") = Hq.mv "_law_single" "_law_single" s__law_single := c.fn 25 rfl
theorem h_co__law_single {h : Heap} {K : PySem.W.Frag} (c : Hq2.Says hS h K) : Hq.coB K (He.ga K "_law_single") "_law_single" = true := c.fact 181 rfl
theorem h_def__law_parts {h : Heap} {K : PySem.W.Frag} (c : Hq2.Says hS h K) : Hq.mo K (He.ga K "_law_parts") = Hq.mv "_law_parts" "_law_parts" s__law_parts := c.fn 26 rfl
theorem h_co__law_parts {h : Heap} {K : PySem.W.Frag} (c : Hq2.Says hS h K) : Hq.coB K (He.ga K "_law_parts") "_law_parts" = true := c.fact 182 rfl
theorem h_def__law_setting {h : Heap} {K : PySem.W.Frag} (c : Hq2.Says hS h K) : Hq.mo K (He.ga K "_law_setting") = Hq.mv "_law_setting" "_law_setting" s__law_setting := c.fn 27 rfl
theorem h_co__law_setting {h : Heap} {K : PySem.W.Frag} (c : Hq2.Says hS h K) : Hq.coB K (He.ga K "_law_setting") "_law_setting" = true := c.fact 183 rfl
theorem h_def__law_watched {h : Heap} {K : PySem.W.Frag} (c : Hq2.Says hS h K) : Hq.mo K (He.ga K "_law_watched") = Hq.mv "_law_watched" "_law_watched" s__law_watched := c.fn 28 rfl
theorem h_co__law_watched {h : Heap} {K : PySem.W.Frag} (c : Hq2.Says hS h K) : Hq.coB K (He.ga K "_law_watched") "_law_watched" = true := c.fact 184 rfl
theorem h_def__law_refused {h : Heap} {K : PySem.W.Frag} (c : Hq2.Says hS h K) : Hq.mo K (He.ga K "_law_refused") = Hq.mv "_law_refused" "_law_refused" s__law_refused := c.fn 29 rfl
theorem h_co__law_refused {h : Heap} {K : PySem.W.Frag} (c : Hq2.Says hS h K) : Hq.coB K (He.ga K "_law_refused") "_law_refused" = true := c.fact 185 rfl
theorem h_def_law {h : Heap} {K : PySem.W.Frag} (c : Hq2.Says hS h K) : Hq.mo K (He.ga K "law") = Hq.mv "law" "law" s_law := c.fn 30 rfl
theorem h_co_law {h : Heap} {K : PySem.W.Frag} (c : Hq2.Says hS h K) : Hq.coB K (He.ga K "law") "law" = true := c.fact 186 rfl
theorem h_def_Weather_changes {h : Heap} {K : PySem.W.Frag} (c : Hq2.Says hS h K) : Hq.mo K (Hq.gtA K (He.ma K (He.ga K "Weather") "changes")) = Hq.mv "changes" "Weather.changes" s_Weather_changes := c.fn 31 rfl
theorem h_co_Weather_changes {h : Heap} {K : PySem.W.Frag} (c : Hq2.Says hS h K) : Hq.coB K (Hq.gtA K (He.ma K (He.ga K "Weather") "changes")) "Weather.changes" = true := c.fact 187 rfl
set_option maxHeartbeats 0 in
theorem hfacts {w : World} {K : PySem.W.Frag} {h : Heap} {mg : Str → Option Value} {fa : Addr} (X : K.In h) (G : h.Ns mainGlobals mg) (hfa : mg ("law" : Str) = some (.ref fa)) (c : Hq2.Says hS h K) : LamX.LawAtS PySem.Challenge.rw_warmswitch_k41_settings_tick_by_tick w K L2.CX0 16 63 "_law_script" mg fa h := by
  have ns_Weather := h_ns_Weather c
  have pg_Weather := h_pg_Weather c
  have hd_Weather := h_hd_Weather c
  have po_Weather := h_po_Weather c
  have sa_Weather := h_sa_Weather c
  have na_Weather__changes := h_na_Weather__changes c
  have ns_Setting := h_ns_Setting c
  have pg_Setting := h_pg_Setting c
  have hd_Setting := h_hd_Setting c
  have po_Setting := h_po_Setting c
  have sa_Setting := h_sa_Setting c
  have na_Setting__low := h_na_Setting__low c
  have na_Setting__high := h_na_Setting__high c
  have ns_HourSetting := h_ns_HourSetting c
  have pg_HourSetting := h_pg_HourSetting c
  have hd_HourSetting := h_hd_HourSetting c
  have po_HourSetting := h_po_HourSetting c
  have sa_HourSetting := h_sa_HourSetting c
  have na_HourSetting__length := h_na_HourSetting__length c
  have na_HourSetting__parts := h_na_HourSetting__parts c
  have ns_RestSetting := h_ns_RestSetting c
  have pg_RestSetting := h_pg_RestSetting c
  have hd_RestSetting := h_hd_RestSetting c
  have po_RestSetting := h_po_RestSetting c
  have sa_RestSetting := h_sa_RestSetting c
  have na_RestSetting__low := h_na_RestSetting__low c
  have na_RestSetting__high := h_na_RestSetting__high c
  have na_RestSetting__rest := h_na_RestSetting__rest c
  have at_first_invalid := h_at_first_invalid c
  have kp_first_invalid := h_kp_first_invalid c
  have at_added_rounds := h_at_added_rounds c
  have kp_added_rounds := h_kp_added_rounds c
  have at_heater_state := h_at_heater_state c
  have kp_heater_state := h_kp_heater_state c
  have at_check_number := h_at_check_number c
  have kp_check_number := h_kp_check_number c
  have at_Weather_init := h_at_Weather_init c
  have fn_Weather_init := h_fn_Weather_init c
  have kp_Weather_init := h_kp_Weather_init c
  have mk_Weather := h_mk_Weather c
  have kc_Weather := h_kc_Weather c
  have at_Weather_len := h_at_Weather_len c
  have fn_Weather_len := h_fn_Weather_len c
  have kp_Weather_len := h_kp_Weather_len c
  have at_Weather_getitem := h_at_Weather_getitem c
  have fn_Weather_getitem := h_fn_Weather_getitem c
  have kp_Weather_getitem := h_kp_Weather_getitem c
  have at_Weather_add := h_at_Weather_add c
  have fn_Weather_add := h_fn_Weather_add c
  have kp_Weather_add := h_kp_Weather_add c
  have at_Weather_mul := h_at_Weather_mul c
  have fn_Weather_mul := h_fn_Weather_mul c
  have kp_Weather_mul := h_kp_Weather_mul c
  have at_can_be_thresholds := h_at_can_be_thresholds c
  have kp_can_be_thresholds := h_kp_can_be_thresholds c
  have at_Setting_init := h_at_Setting_init c
  have fn_Setting_init := h_fn_Setting_init c
  have kp_Setting_init := h_kp_Setting_init c
  have mk_Setting := h_mk_Setting c
  have kc_Setting := h_kc_Setting c
  have at_Setting_thresholds := h_at_Setting_thresholds c
  have fn_Setting_thresholds := h_fn_Setting_thresholds c
  have kp_Setting_thresholds := h_kp_Setting_thresholds c
  have at_Setting_lets_switch := h_at_Setting_lets_switch c
  have fn_Setting_lets_switch := h_fn_Setting_lets_switch c
  have kp_Setting_lets_switch := h_kp_Setting_lets_switch c
  have at_HourSetting_init := h_at_HourSetting_init c
  have fn_HourSetting_init := h_fn_HourSetting_init c
  have kp_HourSetting_init := h_kp_HourSetting_init c
  have mk_HourSetting := h_mk_HourSetting c
  have kc_HourSetting := h_kc_HourSetting c
  have at_HourSetting_thresholds := h_at_HourSetting_thresholds c
  have fn_HourSetting_thresholds := h_fn_HourSetting_thresholds c
  have kp_HourSetting_thresholds := h_kp_HourSetting_thresholds c
  have at_RestSetting_init := h_at_RestSetting_init c
  have fn_RestSetting_init := h_fn_RestSetting_init c
  have kp_RestSetting_init := h_kp_RestSetting_init c
  have mk_RestSetting := h_mk_RestSetting c
  have kc_RestSetting := h_kc_RestSetting c
  have at_RestSetting_thresholds := h_at_RestSetting_thresholds c
  have fn_RestSetting_thresholds := h_fn_RestSetting_thresholds c
  have kp_RestSetting_thresholds := h_kp_RestSetting_thresholds c
  have at_RestSetting_lets_switch := h_at_RestSetting_lets_switch c
  have fn_RestSetting_lets_switch := h_fn_RestSetting_lets_switch c
  have kp_RestSetting_lets_switch := h_kp_RestSetting_lets_switch c
  have at_first_invalid_part := h_at_first_invalid_part c
  have kp_first_invalid_part := h_kp_first_invalid_part c
  have at_watch := h_at_watch c
  have kp_watch := h_kp_watch c
  have at_totals := h_at_totals c
  have kp_totals := h_kp_totals c
  have at__law_start := h_at__law_start c
  have kp__law_start := h_kp__law_start c
  have at__law_drawn := h_at__law_drawn c
  have kp__law_drawn := h_kp__law_drawn c
  have at__law_same := h_at__law_same c
  have kp__law_same := h_kp__law_same c
  have at__law_outcome := h_at__law_outcome c
  have kp__law_outcome := h_kp__law_outcome c
  have at__law_changes := h_at__law_changes c
  have kp__law_changes := h_kp__law_changes c
  have at__law_weather := h_at__law_weather c
  have kp__law_weather := h_kp__law_weather c
  have at__law_single := h_at__law_single c
  have kp__law_single := h_kp__law_single c
  have at__law_parts := h_at__law_parts c
  have kp__law_parts := h_kp__law_parts c
  have at__law_setting := h_at__law_setting c
  have kp__law_setting := h_kp__law_setting c
  have at__law_watched := h_at__law_watched c
  have kp__law_watched := h_kp__law_watched c
  have at__law_refused := h_at__law_refused c
  have kp__law_refused := h_kp__law_refused c
  have at_law := h_at_law c
  have kp_law := h_kp_law c
  have at_Weather_changes := h_at_Weather_changes c
  have gt_Weather_changes := h_gt_Weather_changes c
  have tk_Weather_changes := h_tk_Weather_changes c
  have rc_Weather_changes := h_rc_Weather_changes c
  have kp_Weather_changes := h_kp_Weather_changes c
  obtain ⟨t_MOST_TICKS, gl_MOST_TICKS⟩ := h_gl_MOST_TICKS c
  obtain ⟨t_MOST_GAIN, gl_MOST_GAIN⟩ := h_gl_MOST_GAIN c
  obtain ⟨t_MOST_DEGREES, gl_MOST_DEGREES⟩ := h_gl_MOST_DEGREES c
  obtain ⟨t_MOST_REST, gl_MOST_REST⟩ := h_gl_MOST_REST c
  obtain ⟨t_MOST_WATCHED, gl_MOST_WATCHED⟩ := h_gl_MOST_WATCHED c
  have gl_lcm := h_gl_lcm c
  have z_bool := h_z_bool c
  have z_enumerate := h_z_enumerate c
  have z_int := h_z_int c
  have z_isinstance := h_z_isinstance c
  have z_len := h_z_len c
  have z_list := h_z_list c
  have z_min := h_z_min c
  have z_range := h_z_range c
  have z_tuple := h_z_tuple c
  obtain ⟨t_HourSetting_MAX_LENGTH, cv_HourSetting_MAX_LENGTH, gg_HourSetting_MAX_LENGTH⟩ := h_cv_HourSetting_MAX_LENGTH c
  obtain ⟨t_Weather_MAX_CHANGE, cv_Weather_MAX_CHANGE, gg_Weather_MAX_CHANGE⟩ := h_cv_Weather_MAX_CHANGE c
  obtain ⟨t_Weather_MAX_TICKS, cv_Weather_MAX_TICKS, gg_Weather_MAX_TICKS⟩ := h_cv_Weather_MAX_TICKS c
  obtain ⟨oc_RestSetting_init, od_RestSetting_init, dc_RestSetting_init, pm_RestSetting_init, an_RestSetting_init, cda_RestSetting_init, cc_RestSetting_init, ct_RestSetting_init, osl_RestSetting_init, lk_RestSetting_init, co_RestSetting_init, code_RestSetting_init, cell_RestSetting_init⟩ := Hq2.mx_ok (h_def_RestSetting_init c) (h_co_RestSetting_init c) (h_cc_RestSetting_init c) (h_fl_RestSetting_init c)
  obtain ⟨oc_RestSetting_thresholds, od_RestSetting_thresholds, dc_RestSetting_thresholds, pm_RestSetting_thresholds, an_RestSetting_thresholds, cda_RestSetting_thresholds, cc_RestSetting_thresholds, ct_RestSetting_thresholds, osl_RestSetting_thresholds, lk_RestSetting_thresholds, co_RestSetting_thresholds, code_RestSetting_thresholds, cell_RestSetting_thresholds⟩ := Hq2.mx_ok (h_def_RestSetting_thresholds c) (h_co_RestSetting_thresholds c) (h_cc_RestSetting_thresholds c) (h_fl_RestSetting_thresholds c)
  obtain ⟨oc_first_invalid, od_first_invalid, osl_first_invalid, kV_first_invalid, dc_first_invalid, pm_first_invalid, an_first_invalid, cd_first_invalid, ct_first_invalid, lk_first_invalid, co_first_invalid⟩ := Hq.mo_ok (h_def_first_invalid c) (h_co_first_invalid c)
  obtain ⟨oc_added_rounds, od_added_rounds, osl_added_rounds, kV_added_rounds, dc_added_rounds, pm_added_rounds, an_added_rounds, cd_added_rounds, ct_added_rounds, lk_added_rounds, co_added_rounds⟩ := Hq.mo_ok (h_def_added_rounds c) (h_co_added_rounds c)
  obtain ⟨oc_heater_state, od_heater_state, osl_heater_state, kV_heater_state, dc_heater_state, pm_heater_state, an_heater_state, cd_heater_state, ct_heater_state, lk_heater_state, co_heater_state⟩ := Hq.mo_ok (h_def_heater_state c) (h_co_heater_state c)
  obtain ⟨oc_check_number, od_check_number, osl_check_number, kV_check_number, dc_check_number, pm_check_number, an_check_number, cd_check_number, ct_check_number, lk_check_number, co_check_number⟩ := Hq.mo_ok (h_def_check_number c) (h_co_check_number c)
  obtain ⟨oc_Weather_init, od_Weather_init, osl_Weather_init, kV_Weather_init, dc_Weather_init, pm_Weather_init, an_Weather_init, cd_Weather_init, ct_Weather_init, lk_Weather_init, co_Weather_init⟩ := Hq.mo_ok (h_def_Weather_init c) (h_co_Weather_init c)
  obtain ⟨oc_Weather_len, od_Weather_len, osl_Weather_len, kV_Weather_len, dc_Weather_len, pm_Weather_len, an_Weather_len, cd_Weather_len, ct_Weather_len, lk_Weather_len, co_Weather_len⟩ := Hq.mo_ok (h_def_Weather_len c) (h_co_Weather_len c)
  obtain ⟨oc_Weather_getitem, od_Weather_getitem, osl_Weather_getitem, kV_Weather_getitem, dc_Weather_getitem, pm_Weather_getitem, an_Weather_getitem, cd_Weather_getitem, ct_Weather_getitem, lk_Weather_getitem, co_Weather_getitem⟩ := Hq.mo_ok (h_def_Weather_getitem c) (h_co_Weather_getitem c)
  obtain ⟨oc_Weather_add, od_Weather_add, osl_Weather_add, kV_Weather_add, dc_Weather_add, pm_Weather_add, an_Weather_add, cd_Weather_add, ct_Weather_add, lk_Weather_add, co_Weather_add⟩ := Hq.mo_ok (h_def_Weather_add c) (h_co_Weather_add c)
  obtain ⟨oc_Weather_mul, od_Weather_mul, osl_Weather_mul, kV_Weather_mul, dc_Weather_mul, pm_Weather_mul, an_Weather_mul, cd_Weather_mul, ct_Weather_mul, lk_Weather_mul, co_Weather_mul⟩ := Hq.mo_ok (h_def_Weather_mul c) (h_co_Weather_mul c)
  obtain ⟨oc_can_be_thresholds, od_can_be_thresholds, osl_can_be_thresholds, kV_can_be_thresholds, dc_can_be_thresholds, pm_can_be_thresholds, an_can_be_thresholds, cd_can_be_thresholds, ct_can_be_thresholds, lk_can_be_thresholds, co_can_be_thresholds⟩ := Hq.mo_ok (h_def_can_be_thresholds c) (h_co_can_be_thresholds c)
  obtain ⟨oc_Setting_init, od_Setting_init, osl_Setting_init, kV_Setting_init, dc_Setting_init, pm_Setting_init, an_Setting_init, cd_Setting_init, ct_Setting_init, lk_Setting_init, co_Setting_init⟩ := Hq.mo_ok (h_def_Setting_init c) (h_co_Setting_init c)
  obtain ⟨oc_Setting_thresholds, od_Setting_thresholds, osl_Setting_thresholds, kV_Setting_thresholds, dc_Setting_thresholds, pm_Setting_thresholds, an_Setting_thresholds, cd_Setting_thresholds, ct_Setting_thresholds, lk_Setting_thresholds, co_Setting_thresholds⟩ := Hq.mo_ok (h_def_Setting_thresholds c) (h_co_Setting_thresholds c)
  obtain ⟨oc_Setting_lets_switch, od_Setting_lets_switch, osl_Setting_lets_switch, kV_Setting_lets_switch, dc_Setting_lets_switch, pm_Setting_lets_switch, an_Setting_lets_switch, cd_Setting_lets_switch, ct_Setting_lets_switch, lk_Setting_lets_switch, co_Setting_lets_switch⟩ := Hq.mo_ok (h_def_Setting_lets_switch c) (h_co_Setting_lets_switch c)
  obtain ⟨oc_HourSetting_init, od_HourSetting_init, osl_HourSetting_init, kV_HourSetting_init, dc_HourSetting_init, pm_HourSetting_init, an_HourSetting_init, cd_HourSetting_init, ct_HourSetting_init, lk_HourSetting_init, co_HourSetting_init⟩ := Hq.mo_ok (h_def_HourSetting_init c) (h_co_HourSetting_init c)
  obtain ⟨oc_HourSetting_thresholds, od_HourSetting_thresholds, osl_HourSetting_thresholds, kV_HourSetting_thresholds, dc_HourSetting_thresholds, pm_HourSetting_thresholds, an_HourSetting_thresholds, cd_HourSetting_thresholds, ct_HourSetting_thresholds, lk_HourSetting_thresholds, co_HourSetting_thresholds⟩ := Hq.mo_ok (h_def_HourSetting_thresholds c) (h_co_HourSetting_thresholds c)
  obtain ⟨oc_RestSetting_lets_switch, od_RestSetting_lets_switch, osl_RestSetting_lets_switch, kV_RestSetting_lets_switch, dc_RestSetting_lets_switch, pm_RestSetting_lets_switch, an_RestSetting_lets_switch, cd_RestSetting_lets_switch, ct_RestSetting_lets_switch, lk_RestSetting_lets_switch, co_RestSetting_lets_switch⟩ := Hq.mo_ok (h_def_RestSetting_lets_switch c) (h_co_RestSetting_lets_switch c)
  obtain ⟨oc_first_invalid_part, od_first_invalid_part, osl_first_invalid_part, kV_first_invalid_part, dc_first_invalid_part, pm_first_invalid_part, an_first_invalid_part, cd_first_invalid_part, ct_first_invalid_part, lk_first_invalid_part, co_first_invalid_part⟩ := Hq.mo_ok (h_def_first_invalid_part c) (h_co_first_invalid_part c)
  obtain ⟨oc_watch, od_watch, osl_watch, kV_watch, dc_watch, pm_watch, an_watch, cd_watch, ct_watch, lk_watch, co_watch⟩ := Hq.mo_ok (h_def_watch c) (h_co_watch c)
  obtain ⟨oc_totals, od_totals, osl_totals, kV_totals, dc_totals, pm_totals, an_totals, cd_totals, ct_totals, lk_totals, co_totals⟩ := Hq.mo_ok (h_def_totals c) (h_co_totals c)
  obtain ⟨oc__law_start, od__law_start, osl__law_start, kV__law_start, dc__law_start, pm__law_start, an__law_start, cd__law_start, ct__law_start, lk__law_start, co__law_start⟩ := Hq.mo_ok (h_def__law_start c) (h_co__law_start c)
  obtain ⟨oc__law_drawn, od__law_drawn, osl__law_drawn, kV__law_drawn, dc__law_drawn, pm__law_drawn, an__law_drawn, cd__law_drawn, ct__law_drawn, lk__law_drawn, co__law_drawn⟩ := Hq.mo_ok (h_def__law_drawn c) (h_co__law_drawn c)
  obtain ⟨oc__law_same, od__law_same, osl__law_same, kV__law_same, dc__law_same, pm__law_same, an__law_same, cd__law_same, ct__law_same, lk__law_same, co__law_same⟩ := Hq.mo_ok (h_def__law_same c) (h_co__law_same c)
  obtain ⟨oc__law_outcome, od__law_outcome, osl__law_outcome, kV__law_outcome, dc__law_outcome, pm__law_outcome, an__law_outcome, cd__law_outcome, ct__law_outcome, lk__law_outcome, co__law_outcome⟩ := Hq.mo_ok (h_def__law_outcome c) (h_co__law_outcome c)
  obtain ⟨oc__law_changes, od__law_changes, osl__law_changes, kV__law_changes, dc__law_changes, pm__law_changes, an__law_changes, cd__law_changes, ct__law_changes, lk__law_changes, co__law_changes⟩ := Hq.mo_ok (h_def__law_changes c) (h_co__law_changes c)
  obtain ⟨oc__law_weather, od__law_weather, osl__law_weather, kV__law_weather, dc__law_weather, pm__law_weather, an__law_weather, cd__law_weather, ct__law_weather, lk__law_weather, co__law_weather⟩ := Hq.mo_ok (h_def__law_weather c) (h_co__law_weather c)
  obtain ⟨oc__law_single, od__law_single, osl__law_single, kV__law_single, dc__law_single, pm__law_single, an__law_single, cd__law_single, ct__law_single, lk__law_single, co__law_single⟩ := Hq.mo_ok (h_def__law_single c) (h_co__law_single c)
  obtain ⟨oc__law_parts, od__law_parts, osl__law_parts, kV__law_parts, dc__law_parts, pm__law_parts, an__law_parts, cd__law_parts, ct__law_parts, lk__law_parts, co__law_parts⟩ := Hq.mo_ok (h_def__law_parts c) (h_co__law_parts c)
  obtain ⟨oc__law_setting, od__law_setting, osl__law_setting, kV__law_setting, dc__law_setting, pm__law_setting, an__law_setting, cd__law_setting, ct__law_setting, lk__law_setting, co__law_setting⟩ := Hq.mo_ok (h_def__law_setting c) (h_co__law_setting c)
  obtain ⟨oc__law_watched, od__law_watched, osl__law_watched, kV__law_watched, dc__law_watched, pm__law_watched, an__law_watched, cd__law_watched, ct__law_watched, lk__law_watched, co__law_watched⟩ := Hq.mo_ok (h_def__law_watched c) (h_co__law_watched c)
  obtain ⟨oc__law_refused, od__law_refused, osl__law_refused, kV__law_refused, dc__law_refused, pm__law_refused, an__law_refused, cd__law_refused, ct__law_refused, lk__law_refused, co__law_refused⟩ := Hq.mo_ok (h_def__law_refused c) (h_co__law_refused c)
  obtain ⟨oc_law, od_law, osl_law, kV_law, dc_law, pm_law, an_law, cd_law, ct_law, lk_law, co_law⟩ := Hq.mo_ok (h_def_law c) (h_co_law c)
  obtain ⟨oc_Weather_changes, od_Weather_changes, osl_Weather_changes, kV_Weather_changes, dc_Weather_changes, pm_Weather_changes, an_Weather_changes, cd_Weather_changes, ct_Weather_changes, lk_Weather_changes, co_Weather_changes⟩ := Hq.mo_ok (h_def_Weather_changes c) (h_co_Weather_changes c)
  have ea := hfa.symm.trans (PySem.W.mg_of X G at_law)
  have ea : fa = He.ga K "law" := by injection ea with ea; injection ea
  obtain ⟨cl__law_refused, ecl__law_refused⟩ := He.codeIn_ref co__law_refused
  have ecT__law_refused : He.cT K ("_law_refused", none) = (cl__law_refused, He.tabOf K cl__law_refused) := by
    have e : He.codeOf K ("_law_refused", none) = cl__law_refused := He.codeOf_eq (p := ("_law_refused", none)) lk__law_refused ecl__law_refused
    unfold He.cT
    rw [e]
  have mem__law_refused : (cl__law_refused, He.tabOf K cl__law_refused) ∈ hS.cs K := by rw [← ecT__law_refused]; exact List.mem_cons_self
  have T : Txt K mg {
      c_Weather := He.ga K "Weather"
      c_Setting := He.ga K "Setting"
      c_HourSetting := He.ga K "HourSetting"
      c_RestSetting := He.ga K "RestSetting"
      f_first_invalid := (He.ga K "first_invalid")
      d_first_invalid := PySem.W.fnOf "first_invalid" "first_invalid" (defArgs s_first_invalid) (defBody s_first_invalid) (defScope s_first_invalid) .none kV_first_invalid dc_first_invalid pm_first_invalid an_first_invalid cd_first_invalid ct_first_invalid
      f_added_rounds := (He.ga K "added_rounds")
      d_added_rounds := PySem.W.fnOf "added_rounds" "added_rounds" (defArgs s_added_rounds) (defBody s_added_rounds) (defScope s_added_rounds) .none kV_added_rounds dc_added_rounds pm_added_rounds an_added_rounds cd_added_rounds ct_added_rounds
      f_heater_state := (He.ga K "heater_state")
      d_heater_state := PySem.W.fnOf "heater_state" "heater_state" (defArgs s_heater_state) (defBody s_heater_state) (defScope s_heater_state) .none kV_heater_state dc_heater_state pm_heater_state an_heater_state cd_heater_state ct_heater_state
      f_check_number := (He.ga K "check_number")
      d_check_number := PySem.W.fnOf "check_number" "check_number" (defArgs s_check_number) (defBody s_check_number) (defScope s_check_number) .none kV_check_number dc_check_number pm_check_number an_check_number cd_check_number ct_check_number
      f_Weather_init := (He.ma K (He.ga K "Weather") "__init__")
      d_Weather_init := PySem.W.fnOf "__init__" "Weather.__init__" (defArgs s_Weather_init) (defBody s_Weather_init) (defScope s_Weather_init) .none kV_Weather_init dc_Weather_init pm_Weather_init an_Weather_init cd_Weather_init ct_Weather_init
      f_Weather_len := (He.ma K (He.ga K "Weather") "__len__")
      d_Weather_len := PySem.W.fnOf "__len__" "Weather.__len__" (defArgs s_Weather_len) (defBody s_Weather_len) (defScope s_Weather_len) .none kV_Weather_len dc_Weather_len pm_Weather_len an_Weather_len cd_Weather_len ct_Weather_len
      f_Weather_getitem := (He.ma K (He.ga K "Weather") "__getitem__")
      d_Weather_getitem := PySem.W.fnOf "__getitem__" "Weather.__getitem__" (defArgs s_Weather_getitem) (defBody s_Weather_getitem) (defScope s_Weather_getitem) .none kV_Weather_getitem dc_Weather_getitem pm_Weather_getitem an_Weather_getitem cd_Weather_getitem ct_Weather_getitem
      f_Weather_add := (He.ma K (He.ga K "Weather") "__add__")
      d_Weather_add := PySem.W.fnOf "__add__" "Weather.__add__" (defArgs s_Weather_add) (defBody s_Weather_add) (defScope s_Weather_add) .none kV_Weather_add dc_Weather_add pm_Weather_add an_Weather_add cd_Weather_add ct_Weather_add
      f_Weather_mul := (He.ma K (He.ga K "Weather") "__mul__")
      d_Weather_mul := PySem.W.fnOf "__mul__" "Weather.__mul__" (defArgs s_Weather_mul) (defBody s_Weather_mul) (defScope s_Weather_mul) .none kV_Weather_mul dc_Weather_mul pm_Weather_mul an_Weather_mul cd_Weather_mul ct_Weather_mul
      f_can_be_thresholds := (He.ga K "can_be_thresholds")
      d_can_be_thresholds := PySem.W.fnOf "can_be_thresholds" "can_be_thresholds" (defArgs s_can_be_thresholds) (defBody s_can_be_thresholds) (defScope s_can_be_thresholds) .none kV_can_be_thresholds dc_can_be_thresholds pm_can_be_thresholds an_can_be_thresholds cd_can_be_thresholds ct_can_be_thresholds
      f_Setting_init := (He.ma K (He.ga K "Setting") "__init__")
      d_Setting_init := PySem.W.fnOf "__init__" "Setting.__init__" (defArgs s_Setting_init) (defBody s_Setting_init) (defScope s_Setting_init) .none kV_Setting_init dc_Setting_init pm_Setting_init an_Setting_init cd_Setting_init ct_Setting_init
      f_Setting_thresholds := (He.ma K (He.ga K "Setting") "thresholds")
      d_Setting_thresholds := PySem.W.fnOf "thresholds" "Setting.thresholds" (defArgs s_Setting_thresholds) (defBody s_Setting_thresholds) (defScope s_Setting_thresholds) .none kV_Setting_thresholds dc_Setting_thresholds pm_Setting_thresholds an_Setting_thresholds cd_Setting_thresholds ct_Setting_thresholds
      f_Setting_lets_switch := (He.ma K (He.ga K "Setting") "lets_switch")
      d_Setting_lets_switch := PySem.W.fnOf "lets_switch" "Setting.lets_switch" (defArgs s_Setting_lets_switch) (defBody s_Setting_lets_switch) (defScope s_Setting_lets_switch) .none kV_Setting_lets_switch dc_Setting_lets_switch pm_Setting_lets_switch an_Setting_lets_switch cd_Setting_lets_switch ct_Setting_lets_switch
      f_HourSetting_init := (He.ma K (He.ga K "HourSetting") "__init__")
      d_HourSetting_init := PySem.W.fnOf "__init__" "HourSetting.__init__" (defArgs s_HourSetting_init) (defBody s_HourSetting_init) (defScope s_HourSetting_init) .none kV_HourSetting_init dc_HourSetting_init pm_HourSetting_init an_HourSetting_init cd_HourSetting_init ct_HourSetting_init
      f_HourSetting_thresholds := (He.ma K (He.ga K "HourSetting") "thresholds")
      d_HourSetting_thresholds := PySem.W.fnOf "thresholds" "HourSetting.thresholds" (defArgs s_HourSetting_thresholds) (defBody s_HourSetting_thresholds) (defScope s_HourSetting_thresholds) .none kV_HourSetting_thresholds dc_HourSetting_thresholds pm_HourSetting_thresholds an_HourSetting_thresholds cd_HourSetting_thresholds ct_HourSetting_thresholds
      f_RestSetting_init := (He.ma K (He.ga K "RestSetting") "__init__")
      d_RestSetting_init := PySem.W.ksFn "__init__" "RestSetting.__init__" (defArgs s_RestSetting_init) (defBody s_RestSetting_init) (defScope s_RestSetting_init) .none .none dc_RestSetting_init pm_RestSetting_init an_RestSetting_init (.ref cda_RestSetting_init) ct_RestSetting_init cc_RestSetting_init
      f_RestSetting_thresholds := (He.ma K (He.ga K "RestSetting") "thresholds")
      d_RestSetting_thresholds := PySem.W.ksFn "thresholds" "RestSetting.thresholds" (defArgs s_RestSetting_thresholds) (defBody s_RestSetting_thresholds) (defScope s_RestSetting_thresholds) .none .none dc_RestSetting_thresholds pm_RestSetting_thresholds an_RestSetting_thresholds (.ref cda_RestSetting_thresholds) ct_RestSetting_thresholds cc_RestSetting_thresholds
      f_RestSetting_lets_switch := (He.ma K (He.ga K "RestSetting") "lets_switch")
      d_RestSetting_lets_switch := PySem.W.fnOf "lets_switch" "RestSetting.lets_switch" (defArgs s_RestSetting_lets_switch) (defBody s_RestSetting_lets_switch) (defScope s_RestSetting_lets_switch) .none kV_RestSetting_lets_switch dc_RestSetting_lets_switch pm_RestSetting_lets_switch an_RestSetting_lets_switch cd_RestSetting_lets_switch ct_RestSetting_lets_switch
      f_first_invalid_part := (He.ga K "first_invalid_part")
      d_first_invalid_part := PySem.W.fnOf "first_invalid_part" "first_invalid_part" (defArgs s_first_invalid_part) (defBody s_first_invalid_part) (defScope s_first_invalid_part) .none kV_first_invalid_part dc_first_invalid_part pm_first_invalid_part an_first_invalid_part cd_first_invalid_part ct_first_invalid_part
      f_watch := (He.ga K "watch")
      d_watch := PySem.W.fnOf "watch" "watch" (defArgs s_watch) (defBody s_watch) (defScope s_watch) .none kV_watch dc_watch pm_watch an_watch cd_watch ct_watch
      f_totals := (He.ga K "totals")
      d_totals := PySem.W.fnOf "totals" "totals" (defArgs s_totals) (defBody s_totals) (defScope s_totals) .none kV_totals dc_totals pm_totals an_totals cd_totals ct_totals
      f__law_start := (He.ga K "_law_start")
      d__law_start := PySem.W.fnOf "_law_start" "_law_start" (defArgs s__law_start) (defBody s__law_start) (defScope s__law_start) .none kV__law_start dc__law_start pm__law_start an__law_start cd__law_start ct__law_start
      f__law_drawn := (He.ga K "_law_drawn")
      d__law_drawn := PySem.W.fnOf "_law_drawn" "_law_drawn" (defArgs s__law_drawn) (defBody s__law_drawn) (defScope s__law_drawn) .none kV__law_drawn dc__law_drawn pm__law_drawn an__law_drawn cd__law_drawn ct__law_drawn
      f__law_same := (He.ga K "_law_same")
      d__law_same := PySem.W.fnOf "_law_same" "_law_same" (defArgs s__law_same) (defBody s__law_same) (defScope s__law_same) .none kV__law_same dc__law_same pm__law_same an__law_same cd__law_same ct__law_same
      f__law_outcome := (He.ga K "_law_outcome")
      d__law_outcome := PySem.W.fnOf "_law_outcome" "_law_outcome" (defArgs s__law_outcome) (defBody s__law_outcome) (defScope s__law_outcome) .none kV__law_outcome dc__law_outcome pm__law_outcome an__law_outcome cd__law_outcome ct__law_outcome
      f__law_changes := (He.ga K "_law_changes")
      d__law_changes := PySem.W.fnOf "_law_changes" "_law_changes" (defArgs s__law_changes) (defBody s__law_changes) (defScope s__law_changes) .none kV__law_changes dc__law_changes pm__law_changes an__law_changes cd__law_changes ct__law_changes
      f__law_weather := (He.ga K "_law_weather")
      d__law_weather := PySem.W.fnOf "_law_weather" "_law_weather" (defArgs s__law_weather) (defBody s__law_weather) (defScope s__law_weather) .none kV__law_weather dc__law_weather pm__law_weather an__law_weather cd__law_weather ct__law_weather
      f__law_single := (He.ga K "_law_single")
      d__law_single := PySem.W.fnOf "_law_single" "_law_single" (defArgs s__law_single) (defBody s__law_single) (defScope s__law_single) .none kV__law_single dc__law_single pm__law_single an__law_single cd__law_single ct__law_single
      f__law_parts := (He.ga K "_law_parts")
      d__law_parts := PySem.W.fnOf "_law_parts" "_law_parts" (defArgs s__law_parts) (defBody s__law_parts) (defScope s__law_parts) .none kV__law_parts dc__law_parts pm__law_parts an__law_parts cd__law_parts ct__law_parts
      f__law_setting := (He.ga K "_law_setting")
      d__law_setting := PySem.W.fnOf "_law_setting" "_law_setting" (defArgs s__law_setting) (defBody s__law_setting) (defScope s__law_setting) .none kV__law_setting dc__law_setting pm__law_setting an__law_setting cd__law_setting ct__law_setting
      f__law_watched := (He.ga K "_law_watched")
      d__law_watched := PySem.W.fnOf "_law_watched" "_law_watched" (defArgs s__law_watched) (defBody s__law_watched) (defScope s__law_watched) .none kV__law_watched dc__law_watched pm__law_watched an__law_watched cd__law_watched ct__law_watched
      f__law_refused := (He.ga K "_law_refused")
      d__law_refused := PySem.W.fnOf "_law_refused" "_law_refused" (defArgs s__law_refused) (defBody s__law_refused) (defScope s__law_refused) .none kV__law_refused dc__law_refused pm__law_refused an__law_refused cd__law_refused ct__law_refused
      f_law := (He.ga K "law")
      d_law := PySem.W.fnOf "law" "law" (defArgs s_law) (defBody s_law) (defScope s_law) .none kV_law dc_law pm_law an_law cd_law ct_law
      f_Weather_changes := (Hq.gtA K (He.ma K (He.ga K "Weather") "changes"))
      d_Weather_changes := PySem.W.fnOf "changes" "Weather.changes" (defArgs s_Weather_changes) (defBody s_Weather_changes) (defScope s_Weather_changes) .none kV_Weather_changes dc_Weather_changes pm_Weather_changes an_Weather_changes cd_Weather_changes ct_Weather_changes
      p_Weather_changes := He.ma K (He.ga K "Weather") "changes"
      c_Heater := 0
      c_Drift := 0
      c_Stretch := 0
      c_Timeline := 0
      c_Course := 0
      c_HeatingSum := 0
      c_Room := 0 } := {
      cl_Weather := ⟨pg_Weather, hd_Weather, po_Weather, sa_Weather⟩
      mg_Weather := PySem.W.mg_of X G ns_Weather
      na_Weather__changes := na_Weather__changes
      cl_Setting := ⟨pg_Setting, hd_Setting, po_Setting, sa_Setting⟩
      mg_Setting := PySem.W.mg_of X G ns_Setting
      na_Setting__low := na_Setting__low
      na_Setting__high := na_Setting__high
      cl_HourSetting := ⟨pg_HourSetting, hd_HourSetting, po_HourSetting, sa_HourSetting⟩
      mg_HourSetting := PySem.W.mg_of X G ns_HourSetting
      na_HourSetting__length := na_HourSetting__length
      na_HourSetting__parts := na_HourSetting__parts
      cl_RestSetting := ⟨pg_RestSetting, hd_RestSetting, po_RestSetting, sa_RestSetting⟩
      mg_RestSetting := PySem.W.mg_of X G ns_RestSetting
      na_RestSetting__low := na_RestSetting__low
      na_RestSetting__high := na_RestSetting__high
      na_RestSetting__rest := na_RestSetting__rest
      F_first_invalid := fun_mk (st := s_first_invalid) lk_first_invalid co_first_invalid kp_first_invalid
      mg_first_invalid := PySem.W.mg_of X G at_first_invalid
      F_added_rounds := fun_mk (st := s_added_rounds) lk_added_rounds co_added_rounds kp_added_rounds
      mg_added_rounds := PySem.W.mg_of X G at_added_rounds
      F_heater_state := fun_mk (st := s_heater_state) lk_heater_state co_heater_state kp_heater_state
      mg_heater_state := PySem.W.mg_of X G at_heater_state
      F_check_number := fun_mk (st := s_check_number) lk_check_number co_check_number kp_check_number
      mg_check_number := PySem.W.mg_of X G at_check_number
      F_Weather_init := fun_mk (st := s_Weather_init) lk_Weather_init co_Weather_init kp_Weather_init
      mk_Weather := ⟨mk_Weather, at_Weather_init, fn_Weather_init, kc_Weather⟩
      F_Weather_len := fun_mk (st := s_Weather_len) lk_Weather_len co_Weather_len kp_Weather_len
      me_Weather_len := ⟨at_Weather_len, fn_Weather_len, kp_Weather_len⟩
      F_Weather_getitem := fun_mk (st := s_Weather_getitem) lk_Weather_getitem co_Weather_getitem kp_Weather_getitem
      me_Weather_getitem := ⟨at_Weather_getitem, fn_Weather_getitem, kp_Weather_getitem⟩
      F_Weather_add := fun_mk (st := s_Weather_add) lk_Weather_add co_Weather_add kp_Weather_add
      me_Weather_add := ⟨at_Weather_add, fn_Weather_add, kp_Weather_add⟩
      F_Weather_mul := fun_mk (st := s_Weather_mul) lk_Weather_mul co_Weather_mul kp_Weather_mul
      me_Weather_mul := ⟨at_Weather_mul, fn_Weather_mul, kp_Weather_mul⟩
      F_can_be_thresholds := fun_mk (st := s_can_be_thresholds) lk_can_be_thresholds co_can_be_thresholds kp_can_be_thresholds
      mg_can_be_thresholds := PySem.W.mg_of X G at_can_be_thresholds
      F_Setting_init := fun_mk (st := s_Setting_init) lk_Setting_init co_Setting_init kp_Setting_init
      mk_Setting := ⟨mk_Setting, at_Setting_init, fn_Setting_init, kc_Setting⟩
      F_Setting_thresholds := fun_mk (st := s_Setting_thresholds) lk_Setting_thresholds co_Setting_thresholds kp_Setting_thresholds
      me_Setting_thresholds := ⟨at_Setting_thresholds, fn_Setting_thresholds, kp_Setting_thresholds⟩
      F_Setting_lets_switch := fun_mk (st := s_Setting_lets_switch) lk_Setting_lets_switch co_Setting_lets_switch kp_Setting_lets_switch
      me_Setting_lets_switch := ⟨at_Setting_lets_switch, fn_Setting_lets_switch, kp_Setting_lets_switch⟩
      F_HourSetting_init := fun_mk (st := s_HourSetting_init) lk_HourSetting_init co_HourSetting_init kp_HourSetting_init
      mk_HourSetting := ⟨mk_HourSetting, at_HourSetting_init, fn_HourSetting_init, kc_HourSetting⟩
      F_HourSetting_thresholds := fun_mk (st := s_HourSetting_thresholds) lk_HourSetting_thresholds co_HourSetting_thresholds kp_HourSetting_thresholds
      me_HourSetting_thresholds := ⟨at_HourSetting_thresholds, fn_HourSetting_thresholds, kp_HourSetting_thresholds⟩
      mk_RestSetting := ⟨mk_RestSetting, at_RestSetting_init, fn_RestSetting_init, kc_RestSetting⟩
      me_RestSetting_thresholds := ⟨at_RestSetting_thresholds, fn_RestSetting_thresholds, kp_RestSetting_thresholds⟩
      F_RestSetting_lets_switch := fun_mk (st := s_RestSetting_lets_switch) lk_RestSetting_lets_switch co_RestSetting_lets_switch kp_RestSetting_lets_switch
      me_RestSetting_lets_switch := ⟨at_RestSetting_lets_switch, fn_RestSetting_lets_switch, kp_RestSetting_lets_switch⟩
      F_first_invalid_part := fun_mk (st := s_first_invalid_part) lk_first_invalid_part co_first_invalid_part kp_first_invalid_part
      mg_first_invalid_part := PySem.W.mg_of X G at_first_invalid_part
      F_watch := fun_mk (st := s_watch) lk_watch co_watch kp_watch
      mg_watch := PySem.W.mg_of X G at_watch
      F_totals := fun_mk (st := s_totals) lk_totals co_totals kp_totals
      mg_totals := PySem.W.mg_of X G at_totals
      F__law_start := fun_mk (st := s__law_start) lk__law_start co__law_start kp__law_start
      mg__law_start := PySem.W.mg_of X G at__law_start
      F__law_drawn := fun_mk (st := s__law_drawn) lk__law_drawn co__law_drawn kp__law_drawn
      mg__law_drawn := PySem.W.mg_of X G at__law_drawn
      F__law_same := fun_mk (st := s__law_same) lk__law_same co__law_same kp__law_same
      mg__law_same := PySem.W.mg_of X G at__law_same
      F__law_outcome := fun_mk (st := s__law_outcome) lk__law_outcome co__law_outcome kp__law_outcome
      mg__law_outcome := PySem.W.mg_of X G at__law_outcome
      F__law_changes := fun_mk (st := s__law_changes) lk__law_changes co__law_changes kp__law_changes
      mg__law_changes := PySem.W.mg_of X G at__law_changes
      F__law_weather := fun_mk (st := s__law_weather) lk__law_weather co__law_weather kp__law_weather
      mg__law_weather := PySem.W.mg_of X G at__law_weather
      F__law_single := fun_mk (st := s__law_single) lk__law_single co__law_single kp__law_single
      mg__law_single := PySem.W.mg_of X G at__law_single
      F__law_parts := fun_mk (st := s__law_parts) lk__law_parts co__law_parts kp__law_parts
      mg__law_parts := PySem.W.mg_of X G at__law_parts
      F__law_setting := fun_mk (st := s__law_setting) lk__law_setting co__law_setting kp__law_setting
      mg__law_setting := PySem.W.mg_of X G at__law_setting
      F__law_watched := fun_mk (st := s__law_watched) lk__law_watched co__law_watched kp__law_watched
      mg__law_watched := PySem.W.mg_of X G at__law_watched
      F__law_refused := fun_mk (st := s__law_refused) lk__law_refused co__law_refused kp__law_refused
      mg__law_refused := PySem.W.mg_of X G at__law_refused
      F_law := fun_mk (st := s_law) lk_law co_law kp_law
      mg_law := PySem.W.mg_of X G at_law
      pr_Weather_changes := ⟨at_Weather_changes, gt_Weather_changes, tk_Weather_changes, _, rc_Weather_changes⟩
      F_Weather_changes := fun_mk (st := s_Weather_changes) lk_Weather_changes co_Weather_changes kp_Weather_changes
      mg_MOST_TICKS := ⟨_, PySem.W.mg_of X G gl_MOST_TICKS⟩
      mg_MOST_GAIN := ⟨_, PySem.W.mg_of X G gl_MOST_GAIN⟩
      mg_MOST_DEGREES := ⟨_, PySem.W.mg_of X G gl_MOST_DEGREES⟩
      mg_MOST_REST := ⟨_, PySem.W.mg_of X G gl_MOST_REST⟩
      mg_MOST_WATCHED := ⟨_, PySem.W.mg_of X G gl_MOST_WATCHED⟩
      mg_lcm := PySem.W.mg_of X G gl_lcm
      z_bool := PySem.W.mg_none_of X G z_bool
      z_enumerate := PySem.W.mg_none_of X G z_enumerate
      z_int := PySem.W.mg_none_of X G z_int
      z_isinstance := PySem.W.mg_none_of X G z_isinstance
      z_len := PySem.W.mg_none_of X G z_len
      z_list := PySem.W.mg_none_of X G z_list
      z_min := PySem.W.mg_none_of X G z_min
      z_range := PySem.W.mg_none_of X G z_range
      z_tuple := PySem.W.mg_none_of X G z_tuple
      cv_HourSetting_MAX_LENGTH := ⟨_, ⟨cv_HourSetting_MAX_LENGTH, ⟨_, rfl⟩, gg_HourSetting_MAX_LENGTH, by decide +kernel⟩⟩
      cv_Weather_MAX_CHANGE := ⟨_, ⟨cv_Weather_MAX_CHANGE, ⟨_, rfl⟩, gg_Weather_MAX_CHANGE, by decide +kernel⟩⟩
      cv_Weather_MAX_TICKS := ⟨_, ⟨cv_Weather_MAX_TICKS, ⟨_, rfl⟩, gg_Weather_MAX_TICKS, by decide +kernel⟩⟩ }
  have ER : E2T PySem.Challenge.rw_warmswitch_k41_settings_tick_by_tick.prog K mg (erA2 K) := ⟨ep_of X G (h_epn c), ei_of X G (h_eix c) (c.fx 0 rfl) ⟨_, _, _, _, _, _, _, _, _, _, _, _, _, _, _, _, _, by rfl, rfl, rfl, rfl, by decide⟩ (by decide +kernel), xm_of (h_x1 c), xm_of (h_x2 c), xm_of (h_x3 c)⟩
  have WM : ∀ {b : Ad}, Txt K mg b → b.c_Weather = He.ga K "Weather" → b.f_Weather_mul = He.ma K (He.ga K "Weather") "__mul__" → WMu K b := fun _ e g => wM_of e g (h_wm c)
  refine ⟨PySem.W.fnOf "law" "law" (defArgs s_law) (defBody s_law) (defScope s_law) .none kV_law dc_law pm_law an_law cd_law ct_law, [(cl__law_refused, He.tabOf K cl__law_refused)], spLawT K (He.tabOf K cl__law_refused), (fun p hp => by
    simp only [List.mem_cons, List.not_mem_nil, or_false] at hp
    rcases hp with rfl
    · exact c.empty _ mem__law_refused), (fun p hp => by
    simp only [List.mem_cons, List.not_mem_nil, or_false] at hp
    rcases hp with rfl
    · exact c.out _ mem__law_refused), (fun p hp => by
    simp only [List.mem_cons, List.not_mem_nil, or_false] at hp
    rcases hp with rfl
    · exact PySem.W.codeHd_of_K X (c.hd _ mem__law_refused)), fun s v => .of_eq rfl, fun H a ns hl _ hT hS => ⟨a, ns, rfl, hS, hl, ?_, fun _ => rfl⟩, fun base _ _ TB => ?_⟩
  · intro p hp
    unfold lamT at hp
    simp only [List.mem_cons, List.not_mem_nil, or_false] at hp
    rcases hp with rfl
    · exact LamX.TabS.nil (hT _ (List.mem_cons_self))
  · rw [ea]; exact ok_law T ER (WM T rfl rfl) (sT_of X G (h_st c) (by decide +kernel) T rfl rfl rfl rfl rfl rfl ⟨oc_RestSetting_init, od_RestSetting_init, osl_RestSetting_init, dc_RestSetting_init, pm_RestSetting_init, an_RestSetting_init, cda_RestSetting_init, cc_RestSetting_init, ct_RestSetting_init, rfl, lk_RestSetting_init, co_RestSetting_init, cell_RestSetting_init, code_RestSetting_init⟩ ⟨oc_RestSetting_thresholds, od_RestSetting_thresholds, osl_RestSetting_thresholds, dc_RestSetting_thresholds, pm_RestSetting_thresholds, an_RestSetting_thresholds, cda_RestSetting_thresholds, cc_RestSetting_thresholds, ct_RestSetting_thresholds, rfl, lk_RestSetting_thresholds, co_RestSetting_thresholds, cell_RestSetting_thresholds, code_RestSetting_thresholds⟩) (kI_of rfl rfl rfl (h_kp c) (h_kh c) (h_kr c) (h_km c)) (of_decide_eq_true (h_ns c)) ecl__law_refused (TB _ (List.mem_cons_self))
end W6

open PySem PySem.W PySem.Calls PyProof.Rows
set_option maxHeartbeats 0 in
theorem PySem.Challenge.cw_warmswitch_k41_settings_tick_by_tick_holds : PySem.Challenge.rw_warmswitch_k41_settings_tick_by_tick.Holds := by
  w_on; o_law
  refine HandSHeadRun.head_imp (r := OpenLaw.row PySem.Challenge.rw_warmswitch_k41_settings_tick_by_tick) (q := W6.hV) (H := W6.hk) (ob := W6.hob) (M := 40000) (loose := W6.hn) (d := HandSHeadRun.topDef (OpenLaw.row PySem.Challenge.rw_warmswitch_k41_settings_tick_by_tick).prog 43) (kwd := []) W6.hob_eq
    W6.hrun (by kernel_rfl) (by kernel_rfl) (by kernel_rfl) (by rfl) (by first | assumption | decide +kernel) (by decide +kernel) ⟨rfl, rfl, rfl, rfl, rfl, by decide +kernel⟩ ?hw ?hc
  case hw => w_witness2
  case hc =>
    refine Hq2.walk_tab (l := PySem.Challenge.rw_warmswitch_k41_settings_tick_by_tick) (n := 63) (k := 16) (x := "_law_script") (CX := fun _ => L2.CX0) rfl (by decide) (by kernel_rfl) ⟨rfl, by decide, by decide⟩ ?F (fun _ _ _ _ _ z => z)
    intro w mg fa h Y G hmg0
    obtain ⟨K, KX, c⟩ := Y
    have hmg : mg ("law" : PySem.Str) = some (.ref fa) := by
      have e : (HandSHeadRun.topDef (OpenLaw.row PySem.Challenge.rw_warmswitch_k41_settings_tick_by_tick).prog 43).name = ("law" : PySem.Str) := by kernel_rfl
      rw [← e]
      exact hmg0
    exact ⟨K, KX, W6.hfacts KX G hmg c⟩
#print axioms PySem.Challenge.cw_warmswitch_k41_settings_tick_by_tick_holds

