import PyProof.Rows.All
import Wide.All
import OpenK.AllK
import Wide.FinOn
import HandS.ForMost
import KE.KTupSum
import KE.GoesMore
import HandS.SortKw
import KE.DataMinMax
import KE.KDictCopyH
import KE.KDictKeyed
import KE.KDictLaw
import PyProof.FString
import KE.KExcSuper
import HandS.Base
import HandS.Call
import HandS.Exc
import PyProof.EqAt
import KE.KExcIs
import HandS.ExcIs
import HandS.TryOnly
import HandS.Lambda
import PyProof.SeqRoads
import HandS.NamedTup0
import HandS.NamedTupGet
import HandS.Star
import HandS.ClsMeth
import KE.KMathGC
import PySem.Challenge.RW_warmswitch_k10_whole_hidden_thresholds
import HandS.Property
import HandS.MakeKwOnly
import HandS.Gcd
import HandS.WideBits
import HandS.Wide
import HandS.TupAny
import HandS.Style
import HandS.Iter
import HandS.IsInst
import HandS.WordsExc
import KE.KStateDown
import HandS.Head0
import HandS.Head1
import HandS.Head2
import HandS.Head3
import HandS.HeadEnd
import HandS.HeadHook1
import HandS.HeadHook2
import KE.KNestM
import HandS.HeadHook4
import HandS.HeadNt
import HandS.EndTab
import HandS.ExcOwn
import HandS.Words
import KE.KDflt
set_option Elab.async false
set_option linter.all false
set_option maxRecDepth 100000
/-! more rules over the hand layer: a chain of three comparisons, sum of a tuple, enumerate of a tuple -/
namespace Ru
open PySem PySem.Spec PyProof.Rows L2
section
variable {X : Cx} {a b c d : Expr} {ta tb tc td : TE} {pos : Pos}
/-- a op1 b op2 c op3 d, each answer a truth value; behind a False the rest isn't asked -/
def tCh3 (r1 r2 r3 : R2) (ta tb tc td : TE) : TT := fun σ H Q => ta σ H fun x H1 => tb σ H1 fun y H2 => r1 x y H2 fun z H3 => ∃ k, z = .bl k ∧
  (if k = true then tc σ H3 fun u H4 => r2 y u H4 fun z2 H5 => ∃ k2, z2 = .bl k2 ∧ (if k2 = true then td σ H5 fun v H6 => r3 u v H6 fun z3 H7 => ∃ k3, z3 = .bl k3 ∧ Q k3 H7 else Q false H5) else Q false H3)
theorem pt_ch3 {o1 o2 o3 : CmpOp} {r1 r2 r3 : R2} (h1 : OpR X (compareOp o1) r1) (h2 : OpR X (compareOp o2) r2) (h3 : OpR X (compareOp o3) r3) (ha : PE X a ta) (hb : PE X b tb) (hc : PE X c tc) (hd : PE X d td)
    (hm : lastMarks [o1, o2, o3] [b, c, d] = false := by with_unfolding_all rfl) : PT X (.Compare a [o1, o2, o3] [b, c, d] pos) (tCh3 r1 r2 r3 ta tb tc td) :=
  ⟨fun pins s σ H Q I h => isTrue_chain (thn (ha.run pins s σ H _ I h) fun va s1 ⟨x, H1, I1, e1, g1⟩ => test_link (thn (hb.run pins s1 σ H1 _ I1 g1) fun vb s2 ⟨y, H2, I2, e2, g2⟩ =>
    thn (h1 pins s2 σ H2 x y va vb _ I2 e1 e2 g2) fun w1 s3 ⟨z, H3, I3, e3, k, ek, g3⟩ => by
      subst ek; cases e3
      refine wpAny_truthy_bool ?_
      cases k with
      | false => exact ite_ff ⟨H3, I3, g3⟩
      | true =>
        exact ite_tt (test_link (thn (hc.run pins s3 σ H3 _ I3 g3) fun vc s4 ⟨u, H4, I4, e4, g4⟩ => thn (h2 pins s4 σ H4 y u vb vc _ I4 e2 e4 g4) fun w2 s5 ⟨z2, H5, I5, e5, k2, ek2, g5⟩ => by
          subst ek2; cases e5
          refine wpAny_truthy_bool ?_
          cases k2 with
          | false => exact ite_ff ⟨H5, I5, g5⟩
          | true =>
            exact ite_tt (test_last (thn (hd.run pins s5 σ H5 _ I5 g5) fun vd s6 ⟨v, H6, I6, e6, g6⟩ => thn (h3 pins s6 σ H6 u v vc vd _ I6 e4 e6 g6) fun w3 s7 ⟨z3, H7, I7, e7, k3, ek3, g7⟩ => by
              subst ek3; cases e7
              exact wpAny_truthy_bool ⟨H7, I7, g7⟩)))))) hm⟩
/-- the same as a value -/
def tCh3v (r1 r2 r3 : R2) (ta tb tc td : TE) : TE := fun σ H Q => ta σ H fun x H1 => tb σ H1 fun y H2 => r1 x y H2 fun z H3 => ∃ k, z = .bl k ∧
  (if k = true then tc σ H3 fun u H4 => r2 y u H4 fun z2 H5 => ∃ k2, z2 = .bl k2 ∧ (if k2 = true then td σ H5 fun v H6 => r3 u v H6 Q else Q (.bl false) H5) else Q (.bl false) H3)
theorem pe_ch3 {o1 o2 o3 : CmpOp} {r1 r2 r3 : R2} (h1 : OpR X (compareOp o1) r1) (h2 : OpR X (compareOp o2) r2) (h3 : OpR X (compareOp o3) r3) (ha : PE X a ta) (hb : PE X b tb) (hc : PE X c tc) (hd : PE X d td)
    (hm : lastMarks [o1, o2, o3] [b, c, d] = false := by with_unfolding_all rfl) : PE X (.Compare a [o1, o2, o3] [b, c, d] pos) (tCh3v r1 r2 r3 ta tb tc td) :=
  ⟨fun pins s σ H Q I h => Compare_chain (thn (ha.run pins s σ H _ I h) fun va s1 ⟨x, H1, I1, e1, g1⟩ => chain_link (thn (hb.run pins s1 σ H1 _ I1 g1) fun vb s2 ⟨y, H2, I2, e2, g2⟩ =>
    thn (h1 pins s2 σ H2 x y va vb _ I2 e1 e2 g2) fun w1 s3 ⟨z, H3, I3, e3, k, ek, g3⟩ => by
      subst ek; cases e3
      refine wpAny_truthy_bool ?_
      cases k with
      | false => exact ite_ff ⟨.bl false, H3, I3, rfl, g3⟩
      | true =>
        exact ite_tt (chain_link (thn (hc.run pins s3 σ H3 _ I3 g3) fun vc s4 ⟨u, H4, I4, e4, g4⟩ => thn (h2 pins s4 σ H4 y u vb vc _ I4 e2 e4 g4) fun w2 s5 ⟨z2, H5, I5, e5, k2, ek2, g5⟩ => by
          subst ek2; cases e5
          refine wpAny_truthy_bool ?_
          cases k2 with
          | false => exact ite_ff ⟨.bl false, H5, I5, rfl, g5⟩
          | true => exact ite_tt (chain_last (thn (hd.run pins s5 σ H5 _ I5 g5) fun vd s6 ⟨v, H6, I6, e6, g6⟩ => h3 pins s6 σ H6 u v vc vd Q I6 e4 e6 g6)))))) hm⟩
/-- sum(t), t a tuple of ints -/
def rSumT (K : PySem.W.Frag) : List V → Hp → VK → Prop := fun vs H Q => ∃ (p : Addr) (ns : List Int), vs = [V.ref p] ∧ SqT K H p (ns.map V.int) ∧ Q (.int ns.sum) H
theorem cr_sumT (hc : X.calm = true) : CallR X (.builtin "sum") (rSumT X.K) := fun pins s σ H vs us Q I r h => by
  obtain ⟨p, ns, rfl, hs, g⟩ := h
  obtain ⟨its, rv, ht, _⟩ := I.tuple hs
  rw [Vals.ref1 r]
  obtain ⟨xs, ex⟩ := rv.ints.allInts.items
  have en : numsOf (intItems xs).toList = ns := by rw [← ex]; exact rv.ints.numsOf
  rw [nums_intItems] at en
  rw [ex] at ht
  refine PySem.W.ktm_sumG (I.ok.hd hc) ht fun h' tk t' hk => ⟨.int _, H, I.kept hk, ⟨t', ?_⟩, g⟩
  rw [preSum_eq, List.take_of_length_le (by simp), en]
end
/-! ### enumerate(t), t a tuple -/
theorem enum_newT (l : Addr) (items : Array Value) (n : Nat) (dct : Option Addr) (sl : Array (Option Value)) :
    Meets (Builtin.«enumerate.__new__» ⟨[.type "enumerate", .ref l], []⟩) (fun _ R s => s.heap.get? l = some { cls := .type "tuple", dict := dct, data := .seq items n, slots := sl } ∧
      R (.ok (.ret (.ref (s.heap.push { cls := .type "tuple_iterator", data := .fields #[.ref l, .int 0 0] }).objs.size)))
        { s with heap := (s.heap.push { cls := .type "tuple_iterator", data := .fields #[.ref l, .int 0 0] }).push { cls := .type "enumerate", data := .fields #[.none, .bool false, .ref s.heap.objs.size, rawInt 0, .none, .none] } }) :=
  .of_wp fun prog w A R s hyp => by
    obtain ⟨hp, g, d, tk, os⟩ := s; obtain ⟨hl, hyp⟩ := hyp
    have hsub := sub_enumerate
    have isT : Heap.IsTuple (Shared.heap ⟨hp, g, d, tk, os⟩) l items := ⟨_, hl, rfl, n, rfl⟩
    wp_walk using AutoSeq1.wpAny_loadPart' hl
    refine wpAny_stack_any fun st => wpAny_pure ?_
    split
    · rename_i c _ _ _ _ _
      cases (c == Value.type "enumerate")
      · wp_walk using AutoSeq1.wpAny_loadPart' hl, wpAny_pyIter_tuple isT
        exact ⟨_, rfl, hyp⟩
      · wp_walk using AutoSeq1.wpAny_loadPart' hl, wpAny_pyIter_tuple isT
        exact ⟨_, rfl, hyp⟩
    · wp_walk using AutoSeq1.wpAny_loadPart' hl, wpAny_pyIter_tuple isT
      exact ⟨_, rfl, hyp⟩
section
variable {prog : Program} {w : World} {A : Around} {E : Value → Shared → Prop} {s : Shared}
theorem enum_tuple {l : Addr} {items : Array Value} {Q : Value → Shared → Prop} (ht : s.heap.IsTuple l items)
    (h : ∀ h', IsEnum h' (s.heap.objs.size + 1) s.heap.objs.size 0 .none → h'.IsTupleIter s.heap.objs.size l 0 → (∀ b o, s.heap.get? b = some o → h'.get? b = some o) → Q (.ref (s.heap.objs.size + 1)) { s with heap := h' }) :
    wpAny (model prog w) A (call (.type "enumerate") [.ref l]) Q E s := by
  obtain ⟨⟨c, dct, dt, sl⟩, hl, hc, n, hd⟩ := ht
  obtain rfl : c = .type "tuple" := hc
  obtain rfl : dt = .seq items n := hd
  refine callType_new F.called_enumerate (by decide) (F.typeCall_enumerate_1 _) (F.newCall_enumerate_1 _) (fun obj => F.args_object_init_2 obj _) F.entry_enumerate_new (enum_newT l items n dct sl) ⟨hl, ?_⟩
  generalize ei : ({ cls := .type "tuple_iterator", data := .fields #[.ref l, .int 0 0] } : Obj) = oi
  have hz : (s.heap.push oi).objs.size = s.heap.objs.size + 1 := Heap.size_push ..
  show _ ∧ _
  rw [hz]
  have g : IsEnum ((s.heap.push oi).push { cls := .type "enumerate", data := .fields #[.none, .bool false, .ref s.heap.objs.size, rawInt 0, .none, .none] }) (s.heap.objs.size + 1) s.heap.objs.size 0 .none := by
    have q := Heap.get?_push_size (s.heap.push oi) (o := { cls := .type "enumerate", data := .fields #[.none, .bool false, .ref s.heap.objs.size, rawInt 0, .none, .none] }) rfl
    rw [hz] at q; exact q
  subst ei
  exact ⟨⟨_, g, rfl⟩, h _ g ⟨_, Heap.get?_push_of_some _ (Heap.get?_push_size _ rfl), rfl, rfl⟩ fun b o y => Heap.get?_push_of_some _ (Heap.get?_push_of_some _ y)⟩
end
/-- the tuple of n items at a, each item in a new pair -/
def IteT (K : PySem.W.Frag) (a : Addr) (n : Nat) : It :=
  ⟨fun i H => i < n ∧ ∃ xs : List V, SqT K H a xs ∧ xs.length = n, fun i H v H' => ∃ T x, v = .ref T ∧ H T = none ∧ H' = upd H T (.tup [.int (i : Nat), x]) ∧ ∀ xs, SqT K H a xs → xs[i]? = some x, fun i H => n ≤ i ∧ ∃ xs : List V, SqT K H a xs ∧ xs.length = n⟩
theorem turn_enumT {P : Program} {w : World} {K : PySem.W.Frag} {elts : List Expr} {kk : Nat} {tpos : Pos} (a n e it : Addr) :
    Turn P w K (.Tuple elts kk tpos) (IteT K a n) [e, it] e (fun i h => (∃ old, IsEnum h e it ((i : Nat) : Int) old) ∧ h.IsTupleIter it a i ∧ e ≠ it ∧ a ≠ it ∧ e ≠ a ∧ i ≤ n) where
  mem := by simp
  obj := fun i h ⟨⟨old, he⟩, ⟨o, ho, hc, hd⟩, _⟩ b hb => by
    rcases List.mem_cons.mp hb with rfl | hb
    · exact ⟨_, he, fun v q => nomatch q⟩
    · obtain rfl := List.mem_singleton.mp hb
      exact ⟨o, ho, fun v q => by rw [hd] at q; cases q⟩
  keep := fun i h h' ⟨⟨old, he⟩, ⟨o, ho, hc, hd⟩, hne⟩ k => ⟨⟨old, k e (by simp) _ he⟩, ⟨o, k it (by simp) _ ho, hc, hd⟩, hne⟩
  item := by
    intro X hP hw hK hc i pins s σ H E I hf st hg
    subst hP hw hK
    obtain ⟨⟨old, he⟩, hit, hne, hai, hea, hin⟩ := st
    obtain ⟨hlt0, xs, hq, hn⟩ := hg
    obtain ⟨x, hx⟩ : ∃ x, xs[i]? = some x := ⟨xs[i], by simp [hn, hlt0]⟩
    obtain ⟨its, rv, ht, hz⟩ := I.tuple hq
    obtain ⟨u, hu, ru⟩ := rv.get hx
    have el : e < s.heap.objs.size := Heap.lt_size he
    have il : it < s.heap.objs.size := by obtain ⟨_, q, _⟩ := hit; exact Heap.lt_size q
    have D := Draws.tuple (prog := X.prog) (w := X.w) (A := X.A.in1) (I.ok.hd hc) it a hai its.toArray
    have hlt : i < its.toArray.size := by
      have := (List.getElem?_eq_some_iff.mp hu).1
      simpa using this
    refine wpAny_pyNext_enum_itemD D he ⟨hit, ht⟩ hlt hne (by simp [hne, hea]) fun x' h' tk hP ho st' hT hsz hk => ?_
    have ex : x' = u := by
      have q : its[i]? = some x' := by simpa using hP
      rw [hu] at q; exact (Option.some.inj q).symm
    subst ex
    refine ⟨_, rfl, wpAny_letOwnedTupleGo_enum (s := { s with heap := h', toks := tk + 1 }) ho fun h2 he2 sb => ?_⟩
    have T2 : h2.get? s.heap.objs.size = some { cls := .type "tuple", data := .seq #[.int i tk, x'] } := (sb.2 _ (Nat.ne_of_gt el)).trans hT
    have new : ObjOk X.prog X.w (upd H s.heap.objs.size (.tup [.int (i : Nat), x])) h2 s.heap.objs.size (.tup [.int (i : Nat), x]) := ⟨by show 2 ≤ sizeLine; decide, [.int i tk, x'], .cons ⟨_, rfl⟩ (.cons ru .nil), ⟨_, T2, rfl, _, rfl⟩⟩
    have I1 : Inv X pins σ (upd H s.heap.objs.size (.tup [.int (i : Nat), x])) { s with heap := h2, toks := tk + 1 } :=
      I.turnedNew (ch := [e, it]) (fun b ob hb q => by
        simp only [List.mem_cons, List.not_mem_nil, or_false, not_or] at hb
        exact (sb.2 b hb.1).trans (hk b ob hb.1 hb.2 q)) hf (Nat.le_refl _) new
    refine ⟨.ref s.heap.objs.size, _, I1, rfl, ⟨_, x, rfl, I.hok.fresh (Nat.le_refl _), rfl, fun ys hy => by rw [I.tuple_inj hy hq]; exact hx⟩, ⟨⟨x', ?_⟩, ?_, hne, hai, hea, hlt0⟩, fun b hb => ?_⟩
    · have q : ((i + 1 : Nat) : Int) = (i : Int) + 1 := by omega
      rw [q]; exact he2
    · obtain ⟨⟨o, ho1, ho2, ho3⟩, _⟩ := st'
      exact ⟨o, (sb.2 it (Ne.symm hne)).trans ho1, ho2, ho3⟩
    · have bl : b < s.heap.objs.size := by
        rcases List.mem_cons.mp hb with rfl | hb
        · exact el
        · obtain rfl := List.mem_singleton.mp hb
          exact il
      rw [upd_ne (Nat.ne_of_lt bl)]
      exact (hf b hb).1
  done := by
    intro X hP hw hK hc i pins s σ H E I hf st hg
    subst hP hw hK
    obtain ⟨⟨old, he⟩, hit, hne, hai, hea, hin⟩ := st
    obtain ⟨hni, xs, hq, hn⟩ := hg
    obtain ⟨its, rv, ht, hz⟩ := I.tuple hq
    obtain ⟨f0, f1, f2, f3, f4, f5⟩ := hf it (by simp)
    have hl := rv.length
    have D := Draws.tuple (prog := X.prog) (w := X.w) (A := X.A.in1) (I.ok.hd hc) it a hai its.toArray
    have ei : i = its.toArray.size := by simp; omega
    subst ei
    exact wpAny_pyNext_enum_endD D he ⟨hit, ht⟩ fun h' eb => ⟨rfl, I.turned (t' := s.toks) (fun b o hb q => eb b o hb q) f0 f1 f3 f4 f5⟩
  self := fun A i s Q E ⟨⟨_, he⟩, _⟩ h => wpAny_pyIter_enum he h
def iEnumT (K : PySem.W.Frag) (ta : TA) : TI := fun σ H R => ta σ H fun vs H1 => ∃ a xs, vs = [.ref a] ∧ SqT K H1 a xs ∧ R (IteT K a xs.length) H1
theorem pi_enumT {X : Cx} {e : Expr} {ta : TA} {p pos tpos : Pos} {elts : List Expr} {kk : Nat} (hg : Gl X "enumerate") (hm : X.mg "enumerate" = none) (ha : PA X [e] ta) (hs : starEach [e] X.env = [(false, eval e X.env)] := by rfl) :
    PI X (.Tuple elts kk tpos) (.Call (.Name "enumerate" p) [e] [] pos) (iEnumT X.K ta) := by
  refine ⟨fun pins s σ H R I h => Call_ (ld_blt I hg hm boot_enumerate (PyProof.Rows.callWith_type1 (thn (ha.run pos pins s σ H _ I h) fun us s1 ⟨vs, H1, I1, r1, q1⟩ => ?_) hs rfl))⟩
  obtain ⟨a, xs, ex, hq, q⟩ := q1
  subst ex
  rw [Vals.ref1 r1]
  obtain ⟨its, rv, ht, hz⟩ := I1.tuple hq
  have al : a < s1.heap.objs.size := by obtain ⟨_, g, _⟩ := ht; exact Heap.lt_size g
  refine enum_tuple ht fun h' he hit hk => wpAny_pyIter_enum he ?_
  have I2 : Inv X pins σ H1 { s1 with heap := h' } := I1.kept (t' := s1.toks) hk
  refine ⟨s1.heap.objs.size + 1, [s1.heap.objs.size + 1, s1.heap.objs.size], _, _, H1, rfl, I2, turn_enumT a xs.length (s1.heap.objs.size + 1) s1.heap.objs.size, ⟨⟨.none, he⟩, hit, Nat.succ_ne_self _, Nat.ne_of_lt al, Nat.ne_of_gt (Nat.lt_succ_of_lt al), Nat.zero_le _⟩, fun b hb => ?_, q⟩
  have hle : s1.heap.objs.size ≤ b := by
    rcases List.mem_cons.mp hb with rfl | hb
    · exact Nat.le_succ _
    · obtain rfl := List.mem_singleton.mp hb
      exact Nat.le_refl _
  exact I1.fpOk hle (I1.hok.fresh hle)
/-- the loop over enumerate(t): one turn at a time -/
theorem for_enumT {K : PySem.W.Frag} {a : Addr} {xs : List V} {g : TG} {tb : TS} {D : Ends} {σ : L2.St} {H : Hp} (Pv : Nat → L2.St → Hp → Prop) (h0 : Pv 0 σ H) (hl : ∀ i σ H, Pv i σ H → SqT K H a xs)
    (hs : ∀ i x σ H T, xs[i]? = some x → Pv i σ H → H T = none → g (.ref T) σ (upd H T (.tup [.int (i : Nat), x])) fun σ2 H2 => tb { D with nx := Pv (i + 1), ct := Pv (i + 1), bk := D.nx } σ2 H2) (hd : ∀ σ H, Pv xs.length σ H → D.nx σ H) :
    ∃ W : Nat → Nat → L2.St → Hp → Prop, (∃ m, W 0 m σ H) ∧ ∀ i m σ H, W i m σ H →
      ((IteT K a xs.length).stop i H ∧ D.nx σ H) ∨ ((IteT K a xs.length).go i H ∧ ∃ N : L2.St → Hp → Prop, (∀ σ' H', N σ' H' → ∃ m', m' < m ∧ W (i + 1) m' σ' H') ∧ ∀ x H', (IteT K a xs.length).yld i H x H' → g x σ H' fun σ2 H2 => tb { D with nx := N, ct := N, bk := D.nx } σ2 H2) := by
  refine ⟨fun i m σ H => m = xs.length - i ∧ i ≤ xs.length ∧ Pv i σ H, ⟨_, rfl, Nat.zero_le _, h0⟩, fun i m σ H ⟨em, hi, pr⟩ => ?_⟩
  subst em
  have q := hl i σ H pr
  by_cases hlt : i < xs.length
  · refine .inr ⟨⟨hlt, xs, q, rfl⟩, Pv (i + 1), fun σ' H' p' => ⟨_, by omega, rfl, hlt, p'⟩, fun v H' ⟨T, x, e1, e2, e3, e4⟩ => ?_⟩
    subst e1 e3
    exact hs i x σ H T (e4 xs q) pr e2
  · obtain rfl : i = xs.length := by omega
    exact .inl ⟨⟨Nat.le_refl _, xs, q, rfl⟩, hd σ H pr⟩
end Ru

/-! min(xs, default=None) of a list of ints; a dict whose keys are tuples (int, int, bool) -/
namespace Ru
open PySem PySem.Spec PyProof.Rows L2
theorem reads_ints {h : Heap} : ∀ {vs : List Value} {ns : List Int}, IntsAre vs ns → ∃ as, ReadsAll h vs (ns.map PyData.int) as
  | _, _, .nil => ⟨_, .nil⟩
  | _, _, .cons n t r => let ⟨_, q⟩ := reads_ints r; ⟨_, .cons (.int n t) q⟩
theorem depth_ints : ∀ ns : List Int, PyData.depthAll (ns.map PyData.int) = 0
  | [] => rfl
  | n :: r => by show max 0 (PyData.depthAll (r.map PyData.int)) = 0; rw [depth_ints r]; rfl
theorem alike_ints (ns : List Int) : PySem.W.AlikeAll (ns.map PyData.int) := by
  refine ⟨fun x hx y hy => ?_, fun x hx => ?_⟩
  · obtain ⟨a, _, rfl⟩ := List.mem_map.mp hx
    obtain ⟨b, _, rfl⟩ := List.mem_map.mp hy
    rfl
  · obtain ⟨a, _, rfl⟩ := List.mem_map.mp hx
    exact fun q => nomatch q
section
variable {X : Cx}
def rMinD (K : PySem.W.Frag) : List V → List V → Hp → VK → Prop := fun vs zs H Q => ∃ (p : Addr) (ns : List Int) (d : V), vs = [V.ref p] ∧ zs = [d] ∧ SqL K H p (ns.map V.int) ∧ (ns = [] → Q d H) ∧ ∀ m, m ∈ ns → (∀ y ∈ ns, m ≤ y) → Q (.int m) H
theorem fold_min : ∀ (r : List Int) (n : Int), (r.foldl min n = n ∨ r.foldl min n ∈ r) ∧ r.foldl min n ≤ n ∧ ∀ y ∈ r, r.foldl min n ≤ y
  | [], n => ⟨.inl rfl, Int.le_refl _, fun y h => by cases h⟩
  | k :: r, n => by
    obtain ⟨a, b, c⟩ := fold_min r (min n k)
    simp only [List.foldl_cons, List.mem_cons]
    refine ⟨?_, by omega, ?_⟩
    · rcases a with a | a
      · rw [a]; by_cases q : n ≤ k
        · left; omega
        · right; left; omega
      · right; right; exact a
    · intro y hy
      rcases hy with rfl | hy
      · omega
      · exact c y hy
theorem cr_minD (hc : X.calm = true) (hu : X.A.units + 1 < cLine) : CallRK X (.builtin "min") [Str.ofString "default"] (rMinD X.K) := fun pins s σ H vs zs us ws Q I r rz h => by
  obtain ⟨p, ns, d, rfl, rfl, hs, g0, g1⟩ := h
  obtain ⟨its, rv, hl, _⟩ := I.list hs
  obtain rfl := Vals.ref1 r
  obtain ⟨w1, rfl, e1⟩ := vals1 rz
  obtain ⟨as, ra⟩ := reads_ints (h := s.heap) rv.ints
  refine PySem.W.min_list_default (I.ok.hd hc) hl.isList (by simpa using ra) (alike_ints ns) (by rw [depth_ints]; omega) (fun e h' tk hk => ?_) fun y ys i v h' tk bs e hv rd hk => ?_
  · have en : ns = [] := by simpa using e
    exact ⟨d, H, I.kept hk, e1, g0 en⟩
  · cases ns with
    | nil => cases e
    | cons n r =>
      simp only [List.map_cons, List.cons.injEq] at e
      obtain ⟨rfl, rfl⟩ := e
      rw [PySem.W.minD_ints] at rd
      generalize em : r.foldl min n = m at rd
      have fm := fold_min r n
      rw [em] at fm
      cases rd with
      | int _ t =>
        refine ⟨.int m, H, I.kept hk, ⟨t, rfl⟩, g1 m ?_ fun y hy => ?_⟩
        · rcases fm.1 with q | q
          · rw [q]; exact List.mem_cons_self
          · exact List.mem_cons_of_mem _ q
        · rcases List.mem_cons.mp hy with rfl | hy
          · exact fm.2.1
          · exact fm.2.2 y hy
end
/-! ### the dict of states -/
abbrev SKey := Int × Int × Bool
def skV (k : SKey) : List V := [.int k.1, .int k.2.1, .bl k.2.2]
def skL (k : SKey) : List Leaf := [.num k.1, .num k.2.1, .num (if k.2.2 = true then 1 else 0)]
theorem skL_inj {a b : SKey} (h : skL a = skL b) : a = b := by
  obtain ⟨a1, a2, a3⟩ := a
  obtain ⟨b1, b2, b3⟩ := b
  simp only [skL, List.cons.injEq, Leaf.num.injEq, and_true] at h
  obtain ⟨h1, h2, h3⟩ := h
  subst h1 h2
  cases a3 <;> cases b3 <;> simp at h3 <;> rfl
/-- entries: the key, the address of its tuple, the number stored -/
abbrev SEnt := SKey × Addr × Int
abbrev SRel : List SEnt → List (List Leaf × Addr × Value) → Prop := Paired fun p q => q.1 = skL p.1 ∧ q.2.1 = p.2.1 ∧ RelV (.int p.2.2) q.2.2
def lookS (es : List SEnt) (k : SKey) : Option Int := (es.find? fun e => decide (e.1 = k)).map (·.2.2)
def SDict (P : Program) (w : World) (a : Addr) (es : List SEnt) : HO := .ext fun h => (a == sysModules) = false ∧ es.length ≤ sizeLine ∧ ∃ xs, SRel es xs ∧ ∃ o ds ep, h.get? a = some o ∧ o.ExactDict ∧ o.data = .dict ds ep ∧ ds.toList = xs.map (entryOfKey (tupleKind (leafKind P w))) ∧ (xs.map (·.1)).Nodup
section
variable {P : Program} {w : World}
theorem sdict_ok {H : Hp} {h : Heap} {a : Addr} {es : List SEnt} (lo : (a == sysModules) = false) (hz : es.length ≤ sizeLine) {xs : List (List Leaf × Addr × Value)} (r : SRel es xs) {o : Obj} {ds : Array DictEntry} {ep : Nat} (g : h.get? a = some o) (x : o.ExactDict) (d : o.data = .dict ds ep) (e : ds.toList = xs.map (entryOfKey (tupleKind (leafKind P w)))) (nd : (xs.map (·.1)).Nodup) : ObjOk P w H h a (SDict P w a es) :=
  ⟨⟨lo, hz, xs, r, o, ds, ep, g, x, d, e, nd⟩, ⟨o, g⟩, fun h1 h2 ⟨lo, hz, xs, r, o, ds, ep, g, t⟩ k => ⟨lo, hz, xs, r, o, ds, ep, k o g, t⟩⟩
theorem skey_is {H : Hp} {h : Heap} (ok : HOk P w H h) {b : Addr} {k : SKey} (e : H b = some (.tup (skV k))) : (tupleKind (leafKind P w)).is h (skL k) b := by
  obtain ⟨_, its, rv, o, g, hc, n, hd⟩ := ok b _ e
  refine ⟨o, its.toArray, n, g, hc, hd, ?_⟩
  unfold skV at rv
  cases rv with
  | cons r1 rr =>
    cases rr with
    | cons r2 rr =>
      cases rr with
      | cons r3 rr =>
        cases rr
        obtain ⟨t1, rfl⟩ := r1
        obtain ⟨t2, rfl⟩ := r2
        obtain rfl := r3
        refine .cons ?_ (.cons ?_ (.cons ?_ .nil))
        · exact decide_eq_true rfl
        · exact decide_eq_true rfl
        · exact decide_eq_true rfl
/-- the tuples of the keys stand -/
def KeysAt (H : Hp) (es : List SEnt) : Prop := ∀ e ∈ es, H e.2.1 = some (.tup (skV e.1))
theorem srel_keys : ∀ {es : List SEnt} {xs : List (List Leaf × Addr × Value)}, SRel es xs → (∀ x ∈ xs, ∃ e ∈ es, x.1 = skL e.1 ∧ x.2.1 = e.2.1)
  | _, _, .nil => fun x h => by cases h
  | _, _, .cons (a := e) (b := y) r t => fun x h => by
    rcases List.mem_cons.mp h with rfl | h
    · exact ⟨e, List.mem_cons_self, r.1, r.2.1⟩
    · obtain ⟨e', m, q⟩ := srel_keys t x h
      exact ⟨e', List.mem_cons_of_mem _ m, q⟩
theorem srel_at : ∀ {es : List SEnt} {xs : List (List Leaf × Addr × Value)}, SRel es xs → ∀ k, (lookS es k = none ∧ atKey xs (skL k) = none) ∨ ∃ i p, lookS es k = some i ∧ atKey xs (skL k) = some p ∧ RelV (.int i) p.2
  | _, _, .nil => fun k => .inl ⟨rfl, rfl⟩
  | _, _, .cons (a := e) (b := y) r t => fun k => by
    unfold lookS atKey
    rw [List.find?_cons, List.find?_cons]
    by_cases c : e.1 = k
    · subst c
      rw [decide_eq_true rfl, decide_eq_true r.1]
      exact .inr ⟨_, _, rfl, rfl, r.2.2⟩
    · have c2 : ¬ y.1 = skL k := fun q => c (skL_inj (r.1.symm.trans q))
      rw [decide_eq_false c, decide_eq_false c2]
      exact srel_at t k
theorem srel_snoc : ∀ {es : List SEnt} {xs : List (List Leaf × Addr × Value)} {e : SEnt} {x : List Leaf × Addr × Value}, SRel es xs → x.1 = skL e.1 ∧ x.2.1 = e.2.1 ∧ RelV (.int e.2.2) x.2.2 → SRel (es ++ [e]) (xs ++ [x])
  | _, _, _, _, .nil, h => .cons h .nil
  | _, _, _, _, .cons r t, h => .cons r (srel_snoc t h)
theorem sdict_get {H : Hp} {h : Heap} (ok : HOk P w H h) {a : Addr} {es : List SEnt} (e : H a = some (SDict P w a es)) (ks : KeysAt H es) : (a == sysModules) = false ∧ es.length ≤ sizeLine ∧ ∃ xs, SRel es xs ∧ h.DictOfH (tupleKind (leafKind P w)) a xs := by
  obtain ⟨⟨lo, hz, xs, r, o, ds, ep, g, x, d, l, nd⟩, _, _⟩ := ok a _ e
  refine ⟨lo, hz, xs, r, o, ds, ep, g, x, d, l, fun x hx => ?_, nd⟩
  obtain ⟨e', m, q1, q2⟩ := srel_keys r x hx
  rw [q1, q2]
  exact skey_is ok (ks e' m)
end
section
variable {X : Cx} {pos : Pos}
def tDNewS (P : Program) (w : World) : TE := fun _ H Q => ∀ p, H p = none → Q (.ref p) (upd H p (SDict P w p []))
theorem pe_dnewS : PE X (.Dict [] [] pos) (tDNewS X.prog X.w) := ⟨fun pins s σ H Q I h =>
  wpAny_Dict_empty ⟨.ref s.heap.objs.size, _, I.laid (a := s.heap.objs.size) (o := SDict X.prog X.w s.heap.objs.size []) (t' := s.toks) (fun _ _ q => Heap.get?_push_of_some _ q) (Nat.le_refl _)
    (sdict_ok (beq_eq_false_iff_ne.mpr (Ne.symm (Nat.ne_of_lt I.big))) (Nat.zero_le _) .nil (ep := 0) (ds := #[]) (Heap.get?_push_size _ rfl) ⟨rfl, rfl, rfl⟩ rfl rfl List.nodup_nil), rfl, h _ (I.hok.fresh (Nat.le_refl _))⟩⟩
/-- what a look into the dict asks -/
def AskS (P : Program) (w : World) (x y : V) (H : Hp) (R : Addr → Addr → List SEnt → SKey → Prop) : Prop := ∃ (a b : Addr) (es : List SEnt) (k : SKey), x = .ref a ∧ y = .ref b ∧ H b = some (.tup (skV k)) ∧ H a = some (SDict P w a es) ∧ KeysAt H es ∧ R a b es k
theorem op_inSD (hu : X.A.units + 1 < cLine) : OpR X (compareOp .In) (fun y x H Q => AskS X.prog X.w x y H fun _ _ es k => Q (.bl (lookS es k).isSome) H) := fun pins s σ H y x u v Q I ry rx ⟨a, b, es, k, ex, ey, hb, ha, ks, g⟩ => by
  subst ex ey
  cases rx
  cases ry
  obtain ⟨lo, hz, xs, r, dd⟩ := sdict_get I.hok ha ks
  refine wpAny_in_heap (tupleKind_room_in1 hu) (skey_is I.hok hb) lo dd ?_
  rcases srel_at r k with ⟨q1, q2⟩ | ⟨i, p, q1, q2, q3⟩
  · have g' : Q (.bl (lookS es k).isSome) H := g
    rw [q1] at g'
    rw [q2]
    exact ⟨.bl false, H, I.tok _, rfl, g'⟩
  · have g' : Q (.bl (lookS es k).isSome) H := g
    rw [q1] at g'
    rw [q2]
    exact ⟨.bl true, H, I.tok _, rfl, g'⟩
theorem ix_sd (hu : X.A.units + 1 < cLine) : IxR X (fun x y H Q => AskS X.prog X.w x y H fun _ _ es k => ∃ i, lookS es k = some i ∧ Q (.int i) H) := fun value slice pins s σ H x y v u Q I rx ry ⟨a, b, es, k, ex, ey, hb, ha, ks, i, hi, g⟩ hs => by
  subst ex ey
  cases rx
  cases ry
  obtain ⟨lo, hz, xs, r, dd⟩ := sdict_get I.hok ha ks
  rcases srel_at r k with ⟨q1, q2⟩ | ⟨i', p, q1, q2, q3⟩
  · rw [q1] at hi; cases hi
  · rw [q1] at hi
    obtain rfl := Option.some.inj hi
    exact tail_any dd.typeIs slot_dict_getitem.lookup (wpAny_getItem_heap (tupleKind_room_in1 hu) (skey_is I.hok hb) dd q2 ⟨_, _, I.tok _, q3, g⟩) hs
theorem set_sd (hu : X.A.units + 1 < cLine) : PSet X (fun o i v H Q => AskS X.prog X.w o i H fun a b es k => ∃ n, v = .int n ∧ lookS es k = none ∧ es.length < sizeLine ∧ Q (upd H a (SDict X.prog X.w a (es ++ [(k, b, n)])))) := fun pins s σ H o i v ov iv u Q I ro ri rv ⟨a, b, es, k, ex, ey, hb, ha, ks, n, en, hn, hl, g⟩ => by
  subst ex ey en
  cases ro
  cases ri
  obtain ⟨lo, hz, xs, r, dd⟩ := sdict_get I.hok ha ks
  have lx : xs.length ≤ sizeLine := by rw [← Paired.length r]; exact hz
  refine wpAny_setItem_heap (hsz := lx) (tupleKind_room_in1 hu) (skey_is I.hok hb) dd fun h' dd' sb => ?_
  rcases srel_at r k with ⟨q1, q2⟩ | ⟨i', p, q1, q2, q3⟩
  · rw [storedH_new q2] at dd'
    obtain ⟨q, ds, ep, hq, h2, h3, h4, _, h5⟩ := dd'
    refine ⟨_, d_write I (by rw [ha]; exact True.intro) sb ⟨q, hq⟩ (sdict_ok lo (by rw [List.length_append]; exact hl) (srel_snoc r ⟨rfl, rfl, rv⟩) hq h2 h3 h4 h5), g⟩
  · rw [q1] at hn; cases hn
end
end Ru

/-! The thermostat in plain Lean: the course of a temperature, its stretches, its repetition. -/
namespace Th

structure Par where
  ch : List Int
  g : Int
  lo : Int
  hi : Int
  st : Int
  on0 : Bool

structure Par.Ok (p : Par) : Prop where
  n1 : 1 ≤ p.ch.length
  n24 : p.ch.length ≤ 24
  chb : ∀ c ∈ p.ch, -100 ≤ c ∧ c ≤ 100
  g1 : 1 ≤ p.g
  g200 : p.g ≤ 200
  lohi : p.lo ≤ p.hi
  lob : -1000000000000 ≤ p.lo
  hib : p.hi ≤ 1000000000000
  st1 : -1000000000000 ≤ p.st
  st2 : p.st ≤ 1000000000000

def chAt (ch : List Int) (t : Nat) : Int := ch.getD (t % ch.length) 0
def gon (g : Int) (b : Bool) : Int := if b then g else 0
def sumTo (ch : List Int) (gg : Int) : Nat → Int
  | 0 => 0
  | t + 1 => sumTo ch gg t + chAt ch t + gg
/-- the sum of a whole round -/
def rsum (ch : List Int) (gg : Int) : Int := ch.sum + gg * (ch.length : Int)
/-- the sums of the first ticks of a round -/
def pre (ch : List Int) (gg : Int) (r : Nat) : Int := (ch.take r).sum + gg * (r : Int)

theorem sum_take_succ : ∀ {l : List Int} {i : Nat}, i < l.length → (l.take (i + 1)).sum = (l.take i).sum + l.getD i 0
  | [], i, h => by simp at h
  | a :: r, 0, _ => by simp
  | a :: r, i + 1, h => by
    have ih := sum_take_succ (l := r) (i := i) (by simpa using h)
    simp only [List.take_succ_cons, List.sum_cons, List.getD_cons_succ]
    omega

theorem divmod_succ {n t : Nat} (hn : 0 < n) : (t % n + 1 < n ∧ (t + 1) / n = t / n ∧ (t + 1) % n = t % n + 1) ∨ (t % n + 1 = n ∧ (t + 1) / n = t / n + 1 ∧ (t + 1) % n = 0) := by
  have e := Nat.div_add_mod t n
  have l := Nat.mod_lt t hn
  by_cases c : t % n + 1 < n
  · refine .inl ⟨c, ?_, ?_⟩
    · rw [show t + 1 = n * (t / n) + (t % n + 1) by omega, Nat.mul_add_div hn, Nat.div_eq_of_lt c]; rfl
    · rw [show t + 1 = n * (t / n) + (t % n + 1) by omega, Nat.mul_add_mod, Nat.mod_eq_of_lt c]
  · refine .inr ⟨by omega, ?_, ?_⟩
    · rw [show t + 1 = n * (t / n + 1) by rw [Nat.mul_add]; omega, Nat.mul_div_cancel_left _ hn]
    · rw [show t + 1 = n * (t / n + 1) by rw [Nat.mul_add]; omega, Nat.mul_mod_right]

theorem sumTo_eq {ch : List Int} {gg : Int} (hn : 1 ≤ ch.length) : ∀ t : Nat, sumTo ch gg t = ((t / ch.length : Nat) : Int) * rsum ch gg + pre ch gg (t % ch.length)
  | 0 => by simp [sumTo, pre]
  | t + 1 => by
    have ih := sumTo_eq (ch := ch) (gg := gg) hn t
    have lt := Nat.mod_lt t (show 0 < ch.length by omega)
    show sumTo ch gg t + chAt ch t + gg = _
    rw [ih]
    rcases divmod_succ (n := ch.length) (t := t) (by omega) with ⟨c, e1, e2⟩ | ⟨c, e1, e2⟩
    · rw [e1, e2]
      unfold pre chAt
      rw [sum_take_succ lt, Int.natCast_add, Int.mul_add]
      simp only [Int.natCast_one, Int.mul_one]
      omega
    · rw [e1, e2]
      have h1 := sum_take_succ (l := ch) lt
      rw [c, List.take_length] at h1
      unfold pre chAt rsum
      rw [h1, Int.natCast_add, Int.add_mul]
      have : gg * ((ch.length : Nat) : Int) = gg * ((t % ch.length : Nat) : Int) + gg := by
        rw [show ((ch.length : Nat) : Int) = ((t % ch.length : Nat) : Int) + 1 by omega, Int.mul_add, Int.mul_one]
      simp only [List.take_zero, List.sum_nil, Int.natCast_zero, Int.mul_zero, Int.natCast_one, Int.one_mul]
      omega

theorem chAt_add {ch : List Int} (t : Nat) : chAt ch (t + ch.length) = chAt ch t := by
  unfold chAt
  rw [Nat.add_mod_right]
theorem sumTo_round {ch : List Int} {gg : Int} (hn : 1 ≤ ch.length) (t : Nat) : sumTo ch gg (t + ch.length) = sumTo ch gg t + rsum ch gg := by
  rw [sumTo_eq hn, sumTo_eq hn, Nat.add_mod_right, Nat.add_div_right _ (by omega), Int.natCast_add, Int.add_mul]
  simp only [Int.natCast_one, Int.one_mul]
  omega
theorem sumTo_rounds {ch : List Int} {gg : Int} (hn : 1 ≤ ch.length) (t : Nat) : ∀ k : Nat, sumTo ch gg (t + k * ch.length) = sumTo ch gg t + (k : Int) * rsum ch gg
  | 0 => by simp
  | k + 1 => by
    rw [Nat.succ_mul, ← Nat.add_assoc, sumTo_round hn, sumTo_rounds hn t k, Int.natCast_add, Int.add_mul]
    simp only [Int.natCast_one, Int.one_mul]
    omega

/-! ### the course itself -/
def hst (d lo hi : Int) (b : Bool) : Bool := if d < lo then true else if d > hi then false else b
def stepT (p : Par) (t : Nat) (x : Int × Bool) : Int × Bool :=
  (x.1 + chAt p.ch t + gon p.g x.2, hst (x.1 + chAt p.ch t + gon p.g x.2) p.lo p.hi x.2)
def traj (p : Par) : Nat → Int × Bool
  | 0 => (p.st, hst p.st p.lo p.hi p.on0)
  | t + 1 => stepT p t (traj p t)
def deg (p : Par) (t : Nat) : Int := (traj p t).1
def onn (p : Par) (t : Nat) : Bool := (traj p t).2
theorem deg_succ (p : Par) (t : Nat) : deg p (t + 1) = deg p t + chAt p.ch t + gon p.g (onn p t) := rfl
theorem onn_succ (p : Par) (t : Nat) : onn p (t + 1) = hst (deg p (t + 1)) p.lo p.hi (onn p t) := rfl
/-- how many of the first ticks are heated -/
def Hc (p : Par) : Nat → Int
  | 0 => 0
  | t + 1 => Hc p t + (if onn p t then 1 else 0)

/-- the heater stays from b to the tick before e -/
def Run (p : Par) (b e : Nat) : Prop := ∀ t, b ≤ t → t < e → onn p t = onn p b
theorem run_deg {p : Par} {b : Nat} : ∀ {e : Nat}, b ≤ e → Run p b e → deg p e = deg p b + (sumTo p.ch (gon p.g (onn p b)) e - sumTo p.ch (gon p.g (onn p b)) b)
  | 0, h, _ => by
    have : b = 0 := by omega
    subst this; omega
  | e + 1, h, r => by
    by_cases c : b = e + 1
    · subst c; omega
    · have ih := run_deg (p := p) (b := b) (e := e) (by omega) (fun t h1 h2 => r t h1 (by omega))
      rw [deg_succ, ih, r e (by omega) (by omega)]
      show _ = deg p b + (sumTo p.ch (gon p.g (onn p b)) e + chAt p.ch e + gon p.g (onn p b) - _)
      omega
theorem run_heat {p : Par} {b : Nat} : ∀ {e : Nat}, b ≤ e → Run p b e → Hc p e = Hc p b + (if onn p b then ((e - b : Nat) : Int) else 0)
  | 0, h, _ => by
    have : b = 0 := by omega
    subst this; simp
  | e + 1, h, r => by
    by_cases c : b = e + 1
    · subst c; simp
    · have ih := run_heat (p := p) (b := b) (e := e) (by omega) (fun t h1 h2 => r t h1 (by omega))
      show Hc p e + (if onn p e then 1 else 0) = _
      rw [ih, r e (by omega) (by omega)]
      split <;> omega

/-- e is the first tick behind b in which the heater switches -/
def Nx (p : Par) (b e : Nat) : Prop := b < e ∧ Run p b e ∧ onn p e ≠ onn p b
def Nev (p : Par) (b : Nat) : Prop := ∀ t, b ≤ t → onn p t = onn p b
def sgnOf (b : Bool) : Int := if b then 1 else -1
def bndOf (p : Par) (b : Bool) : Int := if b then p.hi else p.lo
def Bey (sgn bound x : Int) : Prop := sgn * (bound - x) < 0
instance (s b x : Int) : Decidable (Bey s b x) := inferInstanceAs (Decidable (_ < _))
/-- the temperature at t if the heater stays as it is in b -/
def DD (p : Par) (b t : Nat) : Int := deg p b + (sumTo p.ch (gon p.g (onn p b)) t - sumTo p.ch (gon p.g (onn p b)) b)

theorem hst_stay {p : Par} (ok : p.lo ≤ p.hi) {b : Bool} {d : Int} : hst d p.lo p.hi b = b ↔ ¬ Bey (sgnOf b) (bndOf p b) d := by
  unfold hst Bey sgnOf bndOf
  cases b
  · simp only [Bool.false_eq_true, if_false]
    by_cases c : d < p.lo
    · simp only [c, if_true]
      constructor
      · intro h; cases h
      · intro h; exact absurd (show (-1 : Int) * (p.lo - d) < 0 by omega) h
    · simp only [c, if_false]
      constructor
      · intro _ h; omega
      · intro _; split <;> rfl
  · simp only [if_true]
    by_cases c : d < p.lo
    · simp only [c, if_true]
      exact ⟨fun _ h => by omega, fun _ => trivial⟩
    · simp only [c, if_false]
      by_cases c2 : d > p.hi
      · simp only [c2, if_true]
        constructor
        · intro h; cases h
        · intro h; exact absurd (show (1 : Int) * (p.hi - d) < 0 by omega) h
      · simp only [c2, if_false]
        exact ⟨fun _ h => by omega, fun _ => trivial⟩
theorem stay_run {p : Par} (ok : p.lo ≤ p.hi) {b : Nat} : ∀ {e : Nat}, (∀ t, b < t → t < e → ¬ Bey (sgnOf (onn p b)) (bndOf p (onn p b)) (DD p b t)) → Run p b e
  | 0, _ => fun t _ h => by omega
  | e + 1, h => fun t h1 h2 => by
    have ih := stay_run ok (p := p) (b := b) (e := e) (fun t h1 h2 => h t h1 (by omega))
    by_cases c : t < e
    · exact ih t h1 c
    · have te : t = e := by omega
      subst te
      by_cases cb : t = b
      · rw [cb]
      · obtain ⟨u, rfl⟩ : ∃ u, t = u + 1 := ⟨t - 1, by omega⟩
        rw [onn_succ, ih u (by omega) (by omega)]
        refine (hst_stay ok).mpr ?_
        rw [run_deg h1 ih]
        exact h (u + 1) (by omega) (by omega)
theorem nx_of {p : Par} (ok : p.lo ≤ p.hi) {b e : Nat} (h0 : b < e) (h : ∀ t, b < t → t < e → ¬ Bey (sgnOf (onn p b)) (bndOf p (onn p b)) (DD p b t)) (he : Bey (sgnOf (onn p b)) (bndOf p (onn p b)) (DD p b e)) : Nx p b e := by
  have r := stay_run ok h
  refine ⟨h0, r, fun q => ?_⟩
  obtain ⟨u, rfl⟩ : ∃ u, e = u + 1 := ⟨e - 1, by omega⟩
  rw [onn_succ, r u (by omega) (by omega)] at q
  refine (hst_stay ok).mp q ?_
  rw [run_deg (by omega) r]
  exact he
theorem nev_of {p : Par} (ok : p.lo ≤ p.hi) {b : Nat} (h : ∀ t, b < t → ¬ Bey (sgnOf (onn p b)) (bndOf p (onn p b)) (DD p b t)) : Nev p b := fun t h1 =>
  stay_run ok (e := t + 1) (fun t h1 _ => h t h1) t h1 (by omega)

/-! ### the first tick beyond a bound -/
theorem DD_round {p : Par} (ok : p.Ok) (b t k : Nat) : DD p b (t + k * p.ch.length) = DD p b t + (k : Int) * rsum p.ch (gon p.g (onn p b)) := by
  unfold DD
  rw [sumTo_rounds ok.n1]
  omega
/-- general: a temperature that goes on as base + sumTo -/
def Dg (ch : List Int) (gg base : Int) (t : Nat) : Int := base + sumTo ch gg t
theorem Dg_rounds {ch : List Int} {gg base : Int} (hn : 1 ≤ ch.length) (t k : Nat) : Dg ch gg base (t + k * ch.length) = Dg ch gg base t + (k : Int) * rsum ch gg := by
  unfold Dg
  rw [sumTo_rounds hn]
  omega
theorem DD_eq (p : Par) (b t : Nat) : DD p b t = Dg p.ch (gon p.g (onn p b)) (deg p b - sumTo p.ch (gon p.g (onn p b)) b) t := by
  unfold DD Dg
  omega
theorem class_of {n b t : Nat} (hn : 0 < n) (h : b < t) : ∃ i k, i < n ∧ t = b + 1 + i + k * n := by
  refine ⟨(t - b - 1) % n, (t - b - 1) / n, Nat.mod_lt _ hn, ?_⟩
  have e := Nat.div_add_mod (t - b - 1) n
  rw [Nat.mul_comm] at e
  omega
/-- what first_beyond gives -/
def FB (ch : List Int) (gg base : Int) (b : Nat) (sgn bound : Int) (r : Option Nat) : Prop :=
  match r with
  | some e => b < e ∧ Bey sgn bound (Dg ch gg base e) ∧ ∀ t, b < t → t < e → ¬ Bey sgn bound (Dg ch gg base t)
  | none => ∀ t, b < t → ¬ Bey sgn bound (Dg ch gg base t)
theorem bey_rounds {ch : List Int} {gg base sgn bound : Int} (hn : 1 ≤ ch.length) (t k : Nat) : sgn * (bound - Dg ch gg base (t + k * ch.length)) = sgn * (bound - Dg ch gg base t) - (k : Int) * (sgn * rsum ch gg) := by
  rw [Dg_rounds hn]
  have e1 : sgn * (bound - (Dg ch gg base t + (k : Int) * rsum ch gg)) = sgn * (bound - Dg ch gg base t) - sgn * ((k : Int) * rsum ch gg) := by rw [← Int.mul_sub]; congr 1; omega
  rw [e1, Int.mul_left_comm]
theorem fb_none {ch : List Int} {gg base sgn bound : Int} {b : Nat} (hn : 1 ≤ ch.length) (hs : sgn * rsum ch gg ≤ 0) (h : ∀ i, i < ch.length → ¬ Bey sgn bound (Dg ch gg base (b + 1 + i))) : FB ch gg base b sgn bound none := fun t ht => by
  obtain ⟨i, k, hi, rfl⟩ := class_of (n := ch.length) (by omega) ht
  have q := h i hi
  unfold Bey at q ⊢
  rw [bey_rounds hn]
  have : (k : Int) * (sgn * rsum ch gg) ≤ 0 := Int.mul_nonpos_of_nonneg_of_nonpos (Int.natCast_nonneg k) hs
  omega
/-- the tick that the class of the i-th tick gives -/
def cand (ch : List Int) (gg base : Int) (b : Nat) (sgn bound : Int) (i : Nat) : Nat :=
  b + 1 + i + (sgn * (bound - Dg ch gg base (b + 1 + i)) / (sgn * rsum ch gg) + 1).toNat * ch.length
theorem fb_some {ch : List Int} {gg base sgn bound : Int} {b m : Nat} (hn : 1 ≤ ch.length) (hs : 0 < sgn * rsum ch gg) (h : ∀ i, i < ch.length → ¬ Bey sgn bound (Dg ch gg base (b + 1 + i)))
    (hm : ∃ i, i < ch.length ∧ m = cand ch gg base b sgn bound i) (hle : ∀ i, i < ch.length → m ≤ cand ch gg base b sgn bound i) : FB ch gg base b sgn bound (some m) := by
  obtain ⟨i, hi, rfl⟩ := hm
  refine ⟨by unfold cand; omega, ?_, fun t h1 h2 => ?_⟩
  · have q := h i hi
    unfold Bey at q ⊢
    unfold cand
    rw [bey_rounds hn]
    generalize sgn * (bound - Dg ch gg base (b + 1 + i)) = gap at *
    generalize sgn * rsum ch gg = sp at *
    have h0 : 0 ≤ gap / sp := Int.ediv_nonneg (by omega) (by omega)
    rw [Int.toNat_of_nonneg (by omega), Int.add_mul, Int.one_mul]
    have e := Int.mul_ediv_add_emod gap sp
    have l := Int.emod_lt_of_pos gap hs
    rw [Int.mul_comm] at e
    omega
  · obtain ⟨j, k, hj, rfl⟩ := class_of (n := ch.length) (by omega) h1
    intro hb
    have q := h j hj
    have le := hle j hj
    unfold Bey at q hb
    rw [bey_rounds hn] at hb
    unfold cand at le h2
    generalize sgn * (bound - Dg ch gg base (b + 1 + j)) = gap at *
    generalize sgn * rsum ch gg = sp at *
    have h0 : 0 ≤ gap / sp := Int.ediv_nonneg (by omega) (by omega)
    have hk : gap / sp < (k : Int) := Int.ediv_lt_of_lt_mul hs (by omega)
    have hk2 : (gap / sp + 1).toNat ≤ k := by omega
    have := Nat.mul_le_mul_right ch.length hk2
    omega
theorem fb_hit {ch : List Int} {gg base sgn bound : Int} {b i : Nat} (h : ∀ j, j < i → ¬ Bey sgn bound (Dg ch gg base (b + 1 + j))) (hi : Bey sgn bound (Dg ch gg base (b + 1 + i))) : FB ch gg base b sgn bound (some (b + 1 + i)) :=
  ⟨by omega, hi, fun t h1 h2 => by
    have q := h (t - b - 1) (by omega)
    rw [show b + 1 + (t - b - 1) = t by omega] at q
    exact q⟩
/-- how late at most: by the first class -/
theorem fb_late {ch : List Int} {gg base sgn bound : Int} {b e : Nat} (hn : 1 ≤ ch.length) (hs : 0 < sgn * rsum ch gg) (h : FB ch gg base b sgn bound (some e)) (hg : 0 ≤ sgn * (bound - Dg ch gg base (b + 1))) : e ≤ cand ch gg base b sgn bound 0 := by
  obtain ⟨h1, h2, h3⟩ := h
  refine Nat.le_of_not_lt fun hlt => ?_
  refine h3 (cand ch gg base b sgn bound 0) (by unfold cand; omega) hlt ?_
  unfold Bey cand
  rw [bey_rounds hn]
  rw [Nat.add_zero]
  generalize sgn * (bound - Dg ch gg base (b + 1)) = gap at *
  generalize sgn * rsum ch gg = sp at *
  have h0 : 0 ≤ gap / sp := Int.ediv_nonneg (by omega) (by omega)
  rw [Int.toNat_of_nonneg (by omega), Int.add_mul, Int.one_mul]
  have e := Int.mul_ediv_add_emod gap sp
  have l := Int.emod_lt_of_pos gap hs
  rw [Int.mul_comm] at e
  omega
end Th

/-! Stretches, repetition, heating in the long run: plain Lean. -/
namespace Th

def stt (p : Par) (t : Nat) : Nat × Int × Bool := (t % p.ch.length, deg p t, onn p t)
theorem traj_again {p : Par} {a l : Nat} (h : stt p a = stt p l) : ∀ j, traj p (l + j) = traj p (a + j)
  | 0 => by
    unfold stt at h
    injection h with h1 h2
    injection h2 with h2 h3
    exact Prod.ext h2.symm h3.symm
  | j + 1 => by
    have ih := traj_again h j
    unfold stt at h
    injection h with h1 h2
    show stepT p (l + j) (traj p (l + j)) = stepT p (a + j) (traj p (a + j))
    rw [ih]
    have e : chAt p.ch (l + j) = chAt p.ch (a + j) := by
      unfold chAt
      rw [Nat.add_mod l j, Nat.add_mod a j, h1]
    unfold stepT
    rw [e]
/-- behind a tick all is the same again T ticks later -/
def Per (p : Par) (f T : Nat) : Prop := ∀ t, f ≤ t → traj p (t + T) = traj p t
theorem per_of {p : Par} {a l : Nat} (h : stt p a = stt p l) (hl : a ≤ l) : Per p a (l - a) := fun t ht => by
  have e := traj_again h (t - a)
  rw [show l + (t - a) = t + (l - a) by omega, show a + (t - a) = t by omega] at e
  exact e
theorem Per.times {p : Par} {f T : Nat} (h : Per p f T) {t : Nat} (ht : f ≤ t) : ∀ m, traj p (t + m * T) = traj p t
  | 0 => by simp
  | m + 1 => by
    rw [Nat.succ_mul, ← Nat.add_assoc, h (t + m * T) (by omega)]
    exact h.times ht m
theorem Per.heat {p : Par} {f T : Nat} (h : Per p f T) : ∀ j, Hc p (f + j + T) - Hc p (f + j) = Hc p (f + T) - Hc p f
  | 0 => rfl
  | j + 1 => by
    have ih := h.heat j
    have e : onn p (f + j + T) = onn p (f + j) := congrArg Prod.snd (h (f + j) (by omega))
    have e1 : Hc p (f + (j + 1) + T) = Hc p (f + j + T) + (if onn p (f + j + T) then 1 else 0) := by
      rw [show f + (j + 1) + T = (f + j + T) + 1 by omega]; rfl
    have e2 : Hc p (f + (j + 1)) = Hc p (f + j) + (if onn p (f + j) then 1 else 0) := rfl
    rw [e1, e2, e]
    omega
theorem Per.heats {p : Par} {f T : Nat} (h : Per p f T) {t : Nat} (ht : f ≤ t) : ∀ m : Nat, Hc p (t + m * T) = Hc p t + (m : Int) * (Hc p (f + T) - Hc p f)
  | 0 => by simp
  | m + 1 => by
    have ih := h.heats ht m
    have e := h.heat (t + m * T - f)
    rw [show f + (t + m * T - f) = t + m * T by omega] at e
    rw [Nat.succ_mul, ← Nat.add_assoc, Int.natCast_add, Int.add_mul]
    simp only [Int.natCast_one, Int.one_mul]
    omega
theorem Per.mono {p : Par} {f f' T : Nat} (h : Per p f T) (hf : f ≤ f') : Per p f' T := fun t ht => h t (by omega)

/-! ### the begins of the stretches -/
def Chain (p : Par) (bs : List Nat) : Prop := bs[0]? = some 0 ∧ ∀ i a c, bs[i]? = some a → bs[i + 1]? = some c → Nx p a c
theorem Chain.ne {p : Par} {bs : List Nat} (h : Chain p bs) : 0 < bs.length := by
  have := h.1
  cases bs with
  | nil => simp at this
  | cons a r => simp
theorem at_some {bs : List Nat} {i : Nat} (h : i < bs.length) : ∃ a, bs[i]? = some a := ⟨bs[i], by simp [h]⟩
theorem at_lt {α : Type} {bs : List α} {i : Nat} {a : α} (h : bs[i]? = some a) : i < bs.length := (List.getElem?_eq_some_iff.mp h).1
theorem Chain.lt {p : Par} {bs : List Nat} (h : Chain p bs) {i : Nat} : ∀ {d a c : Nat}, bs[i]? = some a → bs[i + d + 1]? = some c → a < c
  | 0, a, c, h1, h2 => (h.2 i a c h1 h2).1
  | d + 1, a, c, h1, h2 => by
    obtain ⟨m, hm⟩ := at_some (bs := bs) (i := i + d + 1) (by have := at_lt h2; omega)
    have q1 := h.lt (d := d) h1 hm
    have q2 := (h.2 (i + d + 1) m c hm h2).1
    omega
theorem Chain.lt' {p : Par} {bs : List Nat} (h : Chain p bs) {i j a c : Nat} (hij : i < j) (h1 : bs[i]? = some a) (h2 : bs[j]? = some c) : a < c := by
  refine h.lt (i := i) (d := j - i - 1) h1 ?_
  rw [show i + (j - i - 1) + 1 = j by omega]
  exact h2
theorem Chain.le' {p : Par} {bs : List Nat} (h : Chain p bs) {i j a c : Nat} (hij : i ≤ j) (h1 : bs[i]? = some a) (h2 : bs[j]? = some c) : a ≤ c := by
  by_cases e : i = j
  · subst e; rw [h1] at h2; cases h2; exact Nat.le_refl _
  · exact Nat.le_of_lt (h.lt' (by omega) h1 h2)
theorem Chain.single (p : Par) : Chain p [0] := ⟨rfl, fun i a c h1 h2 => by simp at h2⟩
theorem Chain.snoc {p : Par} {bs : List Nat} {b e : Nat} (h : Chain p bs) (hb : bs[bs.length - 1]? = some b) (n : Nx p b e) : Chain p (bs ++ [e]) := by
  have ne := h.ne
  refine ⟨by rw [List.getElem?_append_left ne]; exact h.1, fun i a c h1 h2 => ?_⟩
  by_cases hi : i + 1 < bs.length
  · rw [List.getElem?_append_left (by omega)] at h1
    rw [List.getElem?_append_left hi] at h2
    exact h.2 i a c h1 h2
  · have l2 := at_lt h2
    rw [List.length_append, List.length_singleton] at l2
    have ei : i = bs.length - 1 := by omega
    subst ei
    rw [List.getElem?_append_left (by omega), hb] at h1
    rw [show bs.length - 1 + 1 = bs.length by omega, List.getElem?_append_right (Nat.le_refl _), Nat.sub_self] at h2
    cases h1
    cases h2
    exact n

/-! ### the temperatures at which stretches begin -/
theorem onn_hst (p : Par) : ∀ t, ∃ b, onn p t = hst (deg p t) p.lo p.hi b
  | 0 => ⟨p.on0, rfl⟩
  | t + 1 => ⟨onn p t, rfl⟩
theorem getD_mem {l : List Int} {i : Nat} (h : i < l.length) : l.getD i 0 ∈ l := by
  have e : l.getD i 0 = l[i] := by simp [List.getD, h]
  rw [e]
  exact List.getElem_mem h
theorem chAt_bd {p : Par} (ok : p.Ok) (t : Nat) : -100 ≤ chAt p.ch t ∧ chAt p.ch t ≤ 100 :=
  ok.chb _ (getD_mem (Nat.mod_lt _ (by have := ok.n1; omega)))
theorem nx_range {p : Par} (ok : p.Ok) {b e : Nat} (n : Nx p b e) : (onn p e = true → p.lo - 100 ≤ deg p e ∧ deg p e < p.lo) ∧ (onn p e = false → p.hi < deg p e ∧ deg p e ≤ p.hi + 300) := by
  obtain ⟨h1, r, h2⟩ := n
  obtain ⟨u, rfl⟩ : ∃ u, e = u + 1 := ⟨e - 1, by omega⟩
  have eu := r u (by omega) (by omega)
  rw [← eu] at h2
  obtain ⟨b', hb'⟩ := onn_hst p u
  have c := chAt_bd ok u
  have g1 := ok.g1
  have g2 := ok.g200
  have lh := ok.lohi
  have es : onn p (u + 1) = hst (deg p (u + 1)) p.lo p.hi (onn p u) := rfl
  have ed := deg_succ p u
  cases o : onn p u with
  | false =>
    rw [o] at h2 hb' es ed
    refine ⟨fun h3 => ?_, fun h3 => absurd h3 (by simpa using h2)⟩
    rw [h3] at es
    unfold hst at es hb'
    unfold gon at ed
    simp only [Bool.false_eq_true, if_false] at ed
    by_cases c1 : deg p (u + 1) < p.lo
    · by_cases c2 : deg p u < p.lo
      · rw [if_pos c2] at hb'; cases hb'
      · omega
    · rw [if_neg c1] at es
      split at es <;> cases es
  | true =>
    rw [o] at h2 hb' es ed
    refine ⟨fun h3 => absurd h3 (by simpa using h2), fun h3 => ?_⟩
    rw [h3] at es
    unfold hst at es hb'
    unfold gon at ed
    simp only [if_true] at ed
    by_cases c1 : deg p (u + 1) < p.lo
    · rw [if_pos c1] at es; cases es
    · rw [if_neg c1] at es
      by_cases c2 : deg p (u + 1) > p.hi
      · by_cases c3 : deg p u < p.lo
        · omega
        · rw [if_neg c3] at hb'
          by_cases c4 : deg p u > p.hi
          · rw [if_pos c4] at hb'; cases hb'
          · omega
      · rw [if_neg c2] at es; cases es
/-! ### few stretches -/
theorem pigeon : ∀ (M : Nat) {l : List Nat}, l.Nodup → (∀ x ∈ l, x < M) → l.length ≤ M
  | 0, l, _, h => by
    cases l with
    | nil => simp
    | cons a r => exact absurd (h a List.mem_cons_self) (by omega)
  | M + 1, l, nd, h => by
    by_cases c : M ∈ l
    · have := pigeon M (l := l.erase M) (nd.erase M) (fun x hx => by
        have := (nd.mem_erase_iff).mp hx
        have := h x this.2
        omega)
      rw [List.length_erase_of_mem c] at this
      omega
    · have := pigeon M nd (fun x hx => by
        have := h x hx
        have : x ≠ M := fun e => c (e ▸ hx)
        omega)
      omega
def code (p : Par) (t : Nat) : Nat := if onn p t then (t % p.ch.length) * 100 + (p.lo - 1 - deg p t).toNat else 2400 + (t % p.ch.length) * 300 + (deg p t - p.hi - 1).toNat
def Rng (p : Par) (e : Nat) : Prop := (onn p e = true → p.lo - 100 ≤ deg p e ∧ deg p e < p.lo) ∧ (onn p e = false → p.hi < deg p e ∧ deg p e ≤ p.hi + 300)
theorem code_lt {p : Par} (ok : p.Ok) {t : Nat} (r : Rng p t) : code p t < 9600 := by
  have l := Nat.mod_lt t (show 0 < p.ch.length by have := ok.n1; omega)
  have := ok.n24
  unfold code
  cases o : onn p t
  · have := r.2 o; simp; omega
  · have := r.1 o; simp; omega
theorem code_inj {p : Par} (ok : p.Ok) {t u : Nat} (r : Rng p t) (r' : Rng p u) (h : code p t = code p u) : stt p t = stt p u := by
  have l := Nat.mod_lt t (show 0 < p.ch.length by have := ok.n1; omega)
  have l' := Nat.mod_lt u (show 0 < p.ch.length by have := ok.n1; omega)
  have := ok.n24
  unfold code at h
  unfold stt
  cases o : onn p t <;> cases o' : onn p u <;> rw [o, o'] at h
  · have a := r.2 o
    have b := r'.2 o'
    simp at h
    have e1 : t % p.ch.length = u % p.ch.length := by omega
    have e2 : deg p t = deg p u := by omega
    rw [e1, e2]
  · have a := r.2 o
    have b := r'.1 o'
    simp at h
    omega
  · have a := r.1 o
    have b := r'.2 o'
    simp at h
    omega
  · have a := r.1 o
    have b := r'.1 o'
    simp at h
    have e1 : t % p.ch.length = u % p.ch.length := by omega
    have e2 : deg p t = deg p u := by omega
    rw [e1, e2]
/-- the first m begins have different states -/
def Dis (p : Par) (bs : List Nat) (m : Nat) : Prop := ∀ i j a c, i < j → j < m → bs[i]? = some a → bs[j]? = some c → stt p a ≠ stt p c
theorem few {p : Par} (ok : p.Ok) {bs : List Nat} (h : Chain p bs) {m : Nat} (hm : m ≤ bs.length) (d : Dis p bs m) : m ≤ 9601 := by
  have key := pigeon 9600 (l := ((bs.take m).drop 1).map (code p)) ?_ ?_
  · simp only [List.length_map, List.length_drop, List.length_take] at key
    omega
  · rw [List.nodup_iff_pairwise_ne, List.pairwise_map, List.pairwise_iff_getElem]
    intro i j hi hj hij
    simp only [List.length_drop, List.length_take] at hi hj
    simp only [List.getElem_drop, List.getElem_take]
    intro e
    have hr : ∀ k, (hk : 1 + k < bs.length) → Rng p bs[1 + k] := fun k hk =>
      nx_range ok (h.2 k bs[k] bs[1 + k] (by simp [show k < bs.length by omega]) (by rw [Nat.add_comm k 1]; simp [hk]))
    exact d (1 + i) (1 + j) bs[1 + i] bs[1 + j] (by omega) (by omega) (by simp [show 1 + i < bs.length by omega]) (by simp [show 1 + j < bs.length by omega]) (code_inj ok (hr i (by omega)) (hr j (by omega)) e)
  · intro x hx
    obtain ⟨y, hy, rfl⟩ := List.mem_map.mp hx
    obtain ⟨k, hk, rfl⟩ := List.mem_iff_getElem.mp hy
    simp only [List.length_drop, List.length_take] at hk
    simp only [List.getElem_drop, List.getElem_take]
    exact code_lt ok (nx_range ok (h.2 k bs[k] bs[1 + k] (by simp [show k < bs.length by omega]) (by rw [Nat.add_comm k 1]; simp [show 1 + k < bs.length by omega])))

/-! ### how long a stretch can be -/
def SB : Nat := 50000000000000
/-- a begin: the start, or where the heater has just switched -/
def Beg (p : Par) (b : Nat) : Prop := b = 0 ∨ Rng p b
theorem beg_deg {p : Par} (ok : p.Ok) {b : Nat} (h : Beg p b) : (onn p b = true → -1000000000100 ≤ deg p b) ∧ (onn p b = false → deg p b ≤ 1000000000300) := by
  have := ok.lob
  have := ok.hib
  have := ok.st1
  have := ok.st2
  rcases h with rfl | h
  · have e : deg p 0 = p.st := rfl
    rw [e]
    constructor <;> intro _ <;> omega
  · constructor
    · intro o; have := h.1 o; omega
    · intro o; have := h.2 o; omega
def sgB (p : Par) (b : Nat) : Int := sgnOf (onn p b)
def bdB (p : Par) (b : Nat) : Int := bndOf p (onn p b)
def ggB (p : Par) (b : Nat) : Int := gon p.g (onn p b)
def baB (p : Par) (b : Nat) : Int := deg p b - sumTo p.ch (ggB p b) b
theorem Dg_B (p : Par) (b t : Nat) : Dg p.ch (ggB p b) (baB p b) t = DD p b t := by
  unfold Dg baB DD ggB
  omega
theorem late {p : Par} (ok : p.Ok) {b e : Nat} (hb : Beg p b) (h : FB p.ch (ggB p b) (baB p b) b (sgB p b) (bdB p b) (some e)) : e ≤ b + SB := by
  have n1 := ok.n1
  have n24 := ok.n24
  by_cases hg : sgB p b * (bdB p b - Dg p.ch (ggB p b) (baB p b) (b + 1)) < 0
  · obtain ⟨h1, h2, h3⟩ := h
    have : e ≤ b + 1 := Nat.le_of_not_lt fun hlt => h3 (b + 1) (by omega) hlt hg
    unfold SB
    omega
  · by_cases hs : 0 < sgB p b * rsum p.ch (ggB p b)
    · have l := fb_late n1 hs h (by omega)
      have gp : sgB p b * (bdB p b - Dg p.ch (ggB p b) (baB p b) (b + 1)) ≤ 2000000000500 := by
        rw [Dg_B]
        have c := chAt_bd ok b
        have bd := beg_deg ok hb
        have := ok.g1
        have := ok.g200
        have := ok.lob
        have := ok.hib
        have es : sumTo p.ch (gon p.g (onn p b)) (b + 1) = sumTo p.ch (gon p.g (onn p b)) b + chAt p.ch b + gon p.g (onn p b) := rfl
        unfold DD
        rw [es]
        cases o : onn p b
        · have q := bd.2 o
          unfold sgB bdB sgnOf bndOf gon
          rw [o]
          simp
          omega
        · have q := bd.1 o
          unfold sgB bdB sgnOf bndOf gon
          rw [o]
          simp
          omega
      unfold cand at l
      rw [Nat.add_zero] at l
      generalize sgB p b * (bdB p b - Dg p.ch (ggB p b) (baB p b) (b + 1)) = gap at *
      generalize sgB p b * rsum p.ch (ggB p b) = sp at *
      have q1 : gap / sp ≤ gap := Int.ediv_le_self _ (by omega)
      have q2 : (gap / sp + 1).toNat ≤ 2000000000501 := by omega
      have q3 := Nat.mul_le_mul q2 n24
      unfold SB
      omega
    · obtain ⟨h1, h2, h3⟩ := h
      have : e ≤ b + p.ch.length := Nat.le_of_not_lt fun hlt => by
        refine fb_none (b := b) (bound := bdB p b) (base := baB p b) n1 (show sgB p b * rsum p.ch (ggB p b) ≤ 0 by omega) (fun i hi => h3 (b + 1 + i) (by omega) (by omega)) e h1 h2
      unfold SB
      omega
/-- FB says when the heater switches -/
theorem fb_nx {p : Par} (ok : p.Ok) {b e : Nat} (h : FB p.ch (ggB p b) (baB p b) b (sgB p b) (bdB p b) (some e)) : Nx p b e := by
  obtain ⟨h1, h2, h3⟩ := h
  refine nx_of ok.lohi h1 (fun t a c => ?_) ?_
  · have := h3 t a c; rw [Dg_B] at this; exact this
  · rw [Dg_B] at h2; exact h2
theorem fb_nev {p : Par} (ok : p.Ok) {b : Nat} (h : FB p.ch (ggB p b) (baB p b) b (sgB p b) (bdB p b) none) : Nev p b := by
  refine nev_of ok.lohi (fun t a => ?_)
  have := h t a; rw [Dg_B] at this; exact this
theorem chain_beg {p : Par} (ok : p.Ok) {bs : List Nat} (h : Chain p bs) {i b : Nat} (hi : bs[i]? = some b) : Beg p b := by
  cases i with
  | zero => rw [h.1] at hi; cases hi; exact .inl rfl
  | succ i =>
    obtain ⟨a, ha⟩ := at_some (bs := bs) (i := i) (by have := at_lt hi; omega)
    exact .inr (nx_range ok (h.2 i a b ha hi))
end Th

set_option maxHeartbeats 2000000
/-! an own exception over own bases over ValueError: def __init__(self, index): super().__init__(f'..{index}'); self.index = index -/
namespace PySem
namespace IxX
open PySem.W PySem.Calls PyProof.Rows PySem.HandSPX
/-! ### the text of __init__ -/
def iA (p1 p2 : Pos) : Arguments := { posonlyargs := [], args := [{ arg := "self", annotation := none, pos := p1 }, { arg := "index", annotation := none, pos := p2 }], vararg := none, kwonlyargs := [], kw_defaults := [], kwarg := none, defaults := [] }
def iB (msg : Str) (k : Nat) (r1 r2 r3 r4 r5 r6 r7 r8 r9 q1 q2 q3 q4 : Pos) : List Stmt :=
  [.Expr (.Call (.Attribute (.Call (.Name "super" r1) [] [] r2) "__init__" r3) [.JoinedStr [.Constant (.str msg) k r4, .FormattedValue (.Name "index" r5) (-1) none r6] r7] [] r8) r9,
   .Assign [.Attribute (.Name "self" q1) "index" q2] (.Name "index" q3) q4]
def iS : Scope := { kind := .function, names := [(PySem.Str.ofString "self", .local), (PySem.Str.ofString "index", .local), (PySem.Str.ofString "__class__", .free), (PySem.Str.ofString "super", .globalImplicit)], isGenerator := false, isCoroutine := false, more := [] }
/-- what the written part says of such a class, named nm, at C, and of its __init__, at fI -/
structure IxTxt (P : Program) (K : Frag) (mg : Str → Option Value) (nm : Str) (C fI : Addr) : Prop where
  gC : mg nm = some (.ref C)
  cls : ∃ nm q N bs bm sn sub ab col dd k0 k1 k2 k3 k5, K.lookup C = some (excClassObj nm q C N bs bm true sn sub ab col dd k0 k1 k2 k3 k5 "ValueError.__new__") ∧ refsVE bm = true
  sa : findIn K (.ref C) "__setattr__" = some (some (.builtin "object.__setattr__"))
  ga : findIn K (.ref C) "__getattribute__" = some (some (.builtin "BaseException.__getattribute__"))
  gg : findIn K (.ref C) "__getattr__" = some none
  noN : findIn K (.ref C) "index" = some none
  iC : findIn K (.ref C) "__init__" = some (some (.ref fI))
  tC : typeIn K (.ref fI) = some (.type "function")
  kC : keepIn K (.ref C) = true
  exC : subIn K (.ref C) (.type "BaseException") = some true
  tyC : typeIn K (.ref C) = some (.type "type")
  hdC : hasDictIn K C = true
  mr : mroIn K C (.ref C) = some true
  su : ks_superIn K C C "__init__" = some (some (.builtin "ValueError.__init__"))
  ve : subIn K (.ref C) (.type "ValueError") = some true
  any : nsIn K cStatics "thirdparty.any" = some none
  noS : mg "super" = none
  top : (P.main.scope.names.lookup ("super" : Str)).isSome = false
  fn : ∃ (oc : Value) (od : Option Addr) (qual : Str) (doc pm : Value) (an : Option Addr) (cda cc : Addr) (ct : Value) (osl : Array (Option Value)) (msg : Str) (k : Nat) (p1 p2 r1 r2 r3 r4 r5 r6 r7 r8 r9 q1 q2 q3 q4 : Pos),
    (r3.endLine == r8.line) = true ∧ K.lookup fI = some ⟨oc, od, .func (ksFn "__init__" qual (iA p1 p2) (iB msg k r1 r2 r3 r4 r5 r6 r7 r8 r9 q1 q2 q3 q4) iS .none .none doc pm an (.ref cda) ct cc), osl⟩ ∧ codeIn K (.ref cda) qual = true ∧ msg.length ≤ 1000 ∧
    (∃ (ccl : Value) (cdd : Option Addr) (vs : Array Value) (ccs : Array (Option Value)) (file : Str) (tf : Tok), K.lookup cda = some ⟨ccl, cdd, .fields vs, ccs⟩ ∧ vs[2]? = some (.str file tf) ∧ ((P.main.file : Str) == file) = true) ∧
    (∃ (cl : Value) (cld : Option Addr) (csl : Array (Option Value)), K.lookup cc = some ⟨cl, cld, .cell (some (.ref C)), csl⟩)
theorem one_size (v : Value) : [v].length ≤ sizeLine := by
  rw [sizeLine_eq]
  exact (by decide : 1 ≤ 16777216)
theorem kept_but {K : Frag} {h h' : Heap} {x : Addr} (X : K.In h) (hx : K.lookup x = none) (k : ∀ b o, b ≠ x → h.get? b = some o → h'.get? b = some o) : K.In h' := fun a o e =>
  k a o (fun z => by rw [z, hx] at e; cases e) (X a o e)
theorem ns_but {h h' : Heap} {L x : Addr} {m : Str → Option Value} (n : h.Ns L m) (hx : L ≠ x) (k : ∀ b o, b ≠ x → h.get? b = some o → h'.get? b = some o) : h'.Ns L m := by
  obtain ⟨o, es, ep, h1, h2⟩ := n
  exact ⟨o, es, ep, k _ _ hx h1, h2⟩
/-- what __init__ leaves of a fresh exception at x -/
structure InitEnd (h h' : Heap) (x C dx t1 : Addr) (v : Value) : Prop where
  keep : ∀ b o, b ≠ x → h.get? b = some o → h'.get? b = some o
  obj : h'.get? x = some { cls := .ref C, dict := some dx, data := .fields #[.ref t1, .none, .none, .none, .bool false, .none] }
  dbig : h.objs.size ≤ dx
  dne : dx ≠ x
  ns : h'.Ns1 dx (fun y => if y = "index" then some v else none)
section
variable {prog : Program} {w : World} {A : Around} {E : Value → Shared → Prop} {h : Heap} {g : Array GenState} {d : Drawn} {t : Nat} {os : OsState}
/-- the bound __init__ of ValueError is called: nothing of it is told but that the exception stands anew -/
theorem call_mw {nm q : Str} {C N u e t0 : Addr} {bs bm : List Value} {hdct : Bool} {sn : List Str} {sub : List Value} {ab : Bool} {col : Option Bool} {dd : Option Addr} {k0 k1 k2 k3 k5 : Option Value} {rest : List Value} {Q : Value → Shared → Prop}
    (hC : h.get? C = some (excClassObj nm q C N bs bm hdct sn sub ab col dd k0 k1 k2 k3 k5 "ValueError.__new__")) (he : h.get? e = some (excO C t0)) (hu : h.get? u = some (kxs_mw "ValueError.__init__" e)) (hz : rest.length ≤ sizeLine)
    (hq : ∀ h' t1, (∀ b o, b ≠ e → h.get? b = some o → h'.get? b = some o) → h'.get? e = some (excO C t1) → Q .none ⟨h', g, d, t, os⟩) :
    wpAny (model prog w) A (call (.ref u) rest) Q E ⟨h, g, d, t, os⟩ := by
  have F := F.excBase_ValueError
  refine wpAny_call (codeAny_of_tree ?_)
  show wpAny _ A.in1 (callAny (.ref u) ⟨rest, []⟩) _ _ _
  simp only [callAny]
  refine wpAny_bind (wpAny_load hu ?_)
  have isMw : (Value.type "method-wrapper" == Value.type "method"
      || Value.type "method-wrapper" == Value.type "builtin_function_or_method"
      || Value.type "method-wrapper" == Value.type "method-wrapper") = true := by decide
  simp only [kxs_mw, isMw, if_true]
  refine KFB.if_so (by decide) ?_
  refine wpAny_bind (check_bound_init F.toExcCallFacts hC he rfl ?_)
  refine wpAny_bind (wpAny_pure (wpAny_pure ?_))
  refine ⟨plainId_quiet F.init.plain _, codeAny_builtin F.initEntry ?_⟩
  exact exc_init_tree (cls := .ref C) (t0 := t0) (dv := none) (c2 := .none) (c3 := .none) (b4 := .bool false) he hz (fun h' k e' _ => hq h' h.objs.size k e')
end
section
variable {prog : Program} {w : World} {A : Around} {E : Value → Shared → Prop} {R : Result → Shared → Prop} {s : Shared} {K : Frag} {mg : Str → Option Value} {nm : Str} {C fI : Addr}
theorem ix_init (T : IxTxt prog K mg nm C fI) {x t0 : Addr} {i : Int} {ti : Tok} (X : K.In s.heap) (G : s.heap.Ns mainGlobals mg) (B : ∃ mb, s.heap.Ns builtinsNs mb ∧ ∀ y : Str, y ≠ "__name__" → mb y = bootBuiltins y) (hlim : s.heap.NoLimit)
    (hx : s.heap.get? x = some (excO C t0)) (hnx : K.lookup x = none) (hroom : A.depth < recursionLimit) (hi : i.natAbs.log2 < 1920)
    (hq : ∀ h' tk dx t1, InitEnd s.heap h' x C dx t1 (.int i ti) → R (.ok (.ret .none)) { s with heap := h', toks := tk }) :
    codeAny (model prog w) A (.call (.ref fI) ⟨[.ref x, .int i ti], []⟩) R s := by
  obtain ⟨oc, od, qual, doc, pm, an, cda, cc, ct, osl, msg, kk, p1, p2, r1, r2, r3, r4, r5, r6, r7, r8, r9, q1, q2, q3, q4, hline, ho, hcd, hmsg, ⟨ccl, cdd, vs, ccs, file, tf, hcode, hvs, hfile⟩, cl, cld, csl, hcell⟩ := T.fn
  obtain ⟨nm', q', N, bs, bm, sn, sub, ab, col, dd, k0, k1, k2, k3, k5, hC, hbm⟩ := T.cls
  have hcl : clsIn K C = some { name := nm', bases := bs, mro := .ref C :: bm, ns := N, qualname := q', hasDict := true, slotNames := sn, subclasses := sub, abstract := ab, collection := col, hasDel := false } := by unfold clsIn; rw [hC] <;> rfl
  obtain ⟨mb, Bn, Bb⟩ := B
  obtain ⟨hh, g, d, tk, os⟩ := s
  refine ks_codeAny_call_defAt (binds := [("self", .ref x), ("index", .int i ti)]) hroom (X _ _ ho) rfl hlim (codeRec_of X hcd) rfl (BindsTo.of_eq (by first | rfl | with_unfolding_all rfl)) (fun y hy => ?_) (fun y hy => ?_) (fun h₁ hns k => ?_)
  · have hy : y ∈ iS.names := hy
    have z : ∀ u ∈ iS.names, u.2 ≠ NameKind.cell := by decide
    exact z y hy
  · simp only [List.mem_cons, List.not_mem_nil, or_false] at hy
    rcases hy with rfl | rfl
    · rfl
    · rfl
  have X₁ : K.In h₁ := X.keeps k
  have hxL : hh.objs.size ≠ x := Nat.ne_of_gt (Heap.lt_size hx)
  refine ks_wpAt_execs_cons ?_
  refine ks_wpAt_Expr_any ?_
  rw [arm_eval_Call]
  refine wpAt_bind ?_
  refine ks_wpAt_super_base (env := callEnv _ _ _) (by rfl) (by rfl) (by decide) rfl (X₁ _ _ ho) rfl rfl rfl (X₁ _ _ hcode) rfl hvs hfile T.top ?_
  obtain ⟨oD, hD1, hD2⟩ : ∃ oD, h₁.get? C = some oD ∧ oD.data = .cls { name := nm', bases := bs, mro := .ref C :: bm, ns := N, qualname := q', hasDict := true, slotNames := sn, subclasses := sub, abstract := ab, collection := col, hasDel := false } := ⟨_, X₁ _ _ hC, rfl⟩
  have hx₁ := k _ _ hx
  have hxC : x ≠ C := fun z => by rw [z, hC] at hnx; cases hnx
  refine ks_loadName_global (by rfl) (by rfl) (loadGlobal_builtin (mg := mg) (mb := mb) (v := .type "super") (Heap.Ns.keeps G k) T.noS (Heap.Ns.keeps Bn k) ((Bb _ (by decide +kernel)).trans (by first | boot_by_name | rfl | kernel_rfl)) ⟨rfl, ?_⟩)
  refine wpAny_loadName_free (by rfl) (by rfl) (by rfl) ⟨_, X₁ _ _ hcell, rfl⟩ ?_
  refine wpAny_loadName_local (by rfl) (by rfl) hns (by rfl) ?_
  refine ks_wpAny_isType_cls hD1 hD2 ⟨rfl, ?_⟩
  refine ks_wpAny_call_super hD1 hD2 hx₁ rfl (fun c e => by cases e) (looks_mroIn X₁ T.mr) (fun h₂ e k₂ => ?_)
  have X₂ : K.In h₂ := X₁.keeps k₂
  have hx₂ := k₂ _ _ hx₁
  have hI : Looks (model prog w) h₂ (isInstance (.ref x) (.type "ValueError")) true :=
    Looks.andThen (W.InstAt.type (C := C) (od := none) ⟨hx₂, rfl, rfl, trivial⟩) (looks_subIn X₂ T.ve)
  have hmr : Looks (model prog w) h₂ (mroOf (.ref C)) (Value.ref C :: bm) := (looks_clsIn X₂ hcl).andThen .now
  have hsu : alongIn K "__init__" (((Value.ref C :: bm).dropWhile (· != .ref C)).drop 1) = some (some (.builtin "ValueError.__init__")) := by
    have z := T.su
    unfold ks_superIn at z
    rw [hcl] at z
    exact z
  refine wpAt_of_wpAny (wpAny_bind (wpAny_standAt ?_))
  have hpos : methodCallPos true (.Call (.Name "super" r1) [] [] r2) (callEnv (ksFn "__init__" qual (iA p1 p2) (iB msg kk r1 r2 r3 r4 r5 r6 r7 r8 r9 q1 q2 q3 q4) iS .none .none doc pm an (.ref cda) ct cc) hh.objs.size fI) r3 r8 = pure r8 := by
    unfold methodCallPos
    simp [hline]
  unfold methodCall
  refine wpAny_bind (wpAny_holding ?_)
  refine kxs_getMethod kxs_ValueError e (looks_opaque X₂ T.any) hmr rfl X₂ hsu hI hxC (by decide) ?_
  refine wpAny_bind (wpAny_of_eq hpos ?_)
  have hC₂ := X₂ _ _ hC
  have huN : ∀ (b : Addr) (o : Obj), h₂.get? b = some o → (h₂.push (kxs_mw "ValueError.__init__" x)).get? b = some o := fun b o e => Heap.get?_push_of_some _ e
  refine kxs_callWith (i := "ValueError.__init__") (x := x) rfl ?_
  refine evalArgs_plain (rest := []) (spliced_cons ?_)
  refine wpAny_JoinedStr (pos := r7) ?_
  have lt : (Str.ofString (toString i)).length ≤ 1921 := by
    rw [ofString_length]
    exact int_text_length_le (k := 1920) (by decide) hi
  have z0 : (Str.empty ++ msg).length ≤ sizeLine := by
    rw [Str.length_append, sizeLine_eq]
    have : (Str.empty).length = 0 := rfl
    omega
  have z1 : (Str.empty ++ msg ++ Str.ofString (toString i)).length ≤ sizeLine := by
    rw [Str.length_append, Str.length_append, sizeLine_eq]
    have : (Str.empty).length = 0 := rfl
    omega
  refine Calls.Constant_str ⟨msg, _, rfl, z0, ?_⟩
  refine wpAny_FormattedValue_plain (wpAny_Name (wpAny_loadName_local (m := fun y => List.lookup y [(Str.ofString "self", Value.ref x), (Str.ofString "index", Value.int i ti)].reverse) (by rfl) (by rfl) (Heap.Ns.keeps (Heap.Ns.keeps hns k₂) huN) (by rfl) ?_) (by decide))
  · refine wpAny_formatField_int hi ⟨_, _, rfl, z1, z1, spliced_nil ⟨Heap.get?_push_at rfl rfl, ?_⟩⟩
    refine call_mw (t0 := t0) (huN _ _ hC₂) (huN _ _ hx₂) (Heap.get?_push_at rfl rfl) (one_size _) (fun h₃ t1 k₃ hx₃ => ?_)
    have nuL : ∀ {L : Addr}, L ≠ x → ∀ {m : Str → Option Value}, h₁.Ns L m → h₃.Ns L m := fun hL m n => ns_but (Heap.Ns.keeps (Heap.Ns.keeps n k₂) huN) hL k₃
    have X₃ : K.In h₃ := kept_but (X₂.keeps huN) hnx k₃
    have hn₃ := nuL hxL hns
    refine wpAt_of_wpAny (wpAny_execs_cons (plainObj_wpAny_Assign_Attribute ?_))
    refine wpAny_Name (wpAny_loadName_local (v := .int i ti) (by rfl) (by rfl) hn₃ (by rfl) ?_) (by decide)
    refine wpAny_Name (wpAny_loadName_local (v := .ref x) (by rfl) (by rfl) hn₃ (by rfl) ?_) (by decide)
    refine set_plain X₃ (ox := excO C t1) (od := none) ⟨hx₃, rfl, rfl, trivial⟩ T.sa ?_
    refine exc_osa X₃ hx₃ hcl (show refsVE (.ref C :: bm) = true from hbm) rfl T.noN (fun h₄ tk₄ dx k₄ dn dne hx₄ hn₄ => ?_)
    refine wpAny_execs_nil ?_
    refine hq h₄ tk₄ dx t1 ⟨fun b o hb e => k₄ b o hb (k₃ b o hb (huN _ _ (k₂ _ _ (k b o e)))), hx₄, ?_, dne, hn₄⟩
    exact Nat.le_of_lt (Nat.lt_of_lt_of_le hn₃.lt dn)
/-- a made one -/
structure OwnMade (h h' : Heap) (e C d : Addr) (v : Value) : Prop where
  keep : ∀ b o, h.get? b = some o → h'.get? b = some o
  new : h.objs.size ≤ e
  obj : ∃ oe vs, h'.get? e = some oe ∧ oe.cls = .ref C ∧ oe.dict = some d ∧ oe.data = .fields vs ∧ vs[1]? = some .none
  dbig : h.objs.size ≤ d
  dne : d ≠ e
  ns : h'.Ns1 d (fun y => if y = "index" then some v else none)
theorem ix_made (T : IxTxt prog K mg nm C fI) {i : Int} {ti : Tok} (X : K.In s.heap) (G : s.heap.Ns mainGlobals mg) (B : ∃ mb, s.heap.Ns builtinsNs mb ∧ ∀ y : Str, y ≠ "__name__" → mb y = bootBuiltins y) (hlim : s.heap.NoLimit) (hroom : A.depth + 1 < recursionLimit) (hi : i.natAbs.log2 < 1920)
    (hq : ∀ h' tk e d, OwnMade s.heap h' e C d (.int i ti) → R (.ok (.ret (.ref e))) { s with heap := h', toks := tk }) :
    codeAny (model prog w) A (.call (.ref C) ⟨[.int i ti], []⟩) R s := by
  obtain ⟨nm, q, N, bs, bm, sn, sub, ab, col, dd, k0, k1, k2, k3, k5, hC, hbm⟩ := T.cls
  obtain ⟨hp, g, dr, tk, os⟩ := s
  have k : ∀ b o, hp.get? b = some o → ((hp.push (kdv_tup [.int i ti])).push (excO C hp.objs.size)).get? b = some o := fun b o e => Heap.get?_push_of_some _ (Heap.get?_push_of_some _ e)
  have hget : ((hp.push (kdv_tup [.int i ti])).push (excO C hp.objs.size)).get? (hp.objs.size + 1) = some (excO C hp.objs.size) := by heap_get
  have hnx : K.lookup (hp.objs.size + 1) = none := by
    cases e : K.lookup (hp.objs.size + 1) with
    | none => rfl
    | some o =>
      have z : hp.get? (hp.objs.size + 1) = some o := X _ _ e
      exact absurd (Nat.lt_of_succ_lt (Heap.lt_size z)) (Nat.lt_irrefl _)
  obtain ⟨mb, Bn, Bb⟩ := B
  refine call_own F.excBase_ValueError (fun X => refsVE_contains X bm hbm) (X _ _ hC) (looks_findIn X T.iC) (fun self => bind_fn X self T.tC) (one_size _) ?_
  refine ix_init (s := ⟨(hp.push (kdv_tup [.int i ti])).push (excO C hp.objs.size), g, dr, tk, os⟩) T (X.keeps k) (Heap.Ns.keeps G k) ⟨mb, Heap.Ns.keeps Bn k, Bb⟩ (hlim.keeps k) hget hnx ?_ hi fun h' tk' dx t1 ⟨k', hx, dn, dne, hns⟩ => ?_
  · show A.depth + 1 < recursionLimit
    exact hroom
  · have old : ∀ b o, hp.get? b = some o → h'.get? b = some o := fun b o e => k' b o (Nat.ne_of_lt (Nat.lt_succ_of_lt (Heap.lt_size e))) (k b o e)
    have z : hp.objs.size + 1 + 1 ≤ dx := by
      first
        | (simpa only [Heap.size_push] using dn)
        | exact dn
        | (have q := dn; rw [Heap.size_push, Heap.size_push] at q; exact q)
    exact ⟨rfl, hq h' tk' (hp.objs.size + 1) dx ⟨old, Nat.le_succ _, ⟨_, _, hx, rfl, rfl, rfl, rfl⟩, Nat.le_trans (Nat.le_trans (Nat.le_succ _) (Nat.le_succ _)) z, dne, hns⟩⟩
end
end IxX
end PySem
namespace L2
open PySem PySem.Spec PyProof.Rows
theorem relO_ix {v : V} {v' : Value} (r : RelV v v') (f : Str) : RelO (List.lookup f [(("index" : Str), v)]) (if f = "index" then some v' else none) := by
  by_cases hw : f = "index"
  · subst hw
    rw [if_pos rfl]
    have q : List.lookup ("index" : Str) [(("index" : Str), v)] = some v := by simp [List.lookup]
    rw [q]
    exact r
  · rw [if_neg hw]
    have qw : (f == ("index" : Str)) = false := by simpa using hw
    have q2 : List.lookup f [(("index" : Str), v)] = none := by simp [List.lookup, qw]
    rw [q2]
    trivial
section
variable {X : Cx} {nm : Str} {C fI : Addr}
/-- InvalidX(e) -/
def tMkIx (C : Addr) (ta : TA) : St → Hp → XK → Prop := fun σ H Q => ta σ H fun vs H1 => ∃ i : Int, vs = [.int i] ∧ i.natAbs.log2 < 1920 ∧ ∀ d, H1 d = none → Q (.ref C) (some d) (upd H1 d (.xd [(("index" : Str), .int i)]))
theorem pmk_ix {a : Expr} {ta : TA} {p pos : Pos} {k : Nat} (T : PySem.IxX.IxTxt X.prog X.K X.mg nm C fI) (hr : Room k X.A) (ha : PA X [a] ta) (hg : Gl X nm) (hdb : (nm == ("__debug__" : Str)) = false := by decide)
    (he : starEach (a :: []) X.env = (false, eval a X.env) :: starEach [] X.env := by rfl) (hpl : (backTo pos (starEach [] X.env)).any (·.1) = false := by rfl) :
    PMk X (.Call (.Name nm p) [a] [] pos) (tMkIx C ta) := by
  intro pins s σ H Q I h
  refine wpAny_Call_Name_kw (ld_glob I hg T.gC ?_ hdb)
  refine PySem.W.callWith_K (h₀ := X.base) I.ok.mod.kin T.kC (thn (ha.run pos pins s σ H _ I h) fun us s1 hh => ?_) he hpl
  obtain ⟨vs, H1, I1, r1, i, ev, hi, q1⟩ := hh
  subst ev
  refine ⟨I1.kIn, ?_⟩
  cases r1 with
  | cons rv rn =>
    rename_i v' us'
    cases rn
    obtain ⟨ti, rfl⟩ := rv
    show wpAny _ _ (call (.ref C) [.int i ti]) _ _ _
    have hlim := I1.nolimit
    have hglob := I1.ok.mod.glob.keeps I1.bk
    have hbl : ∃ mb, s1.heap.Ns builtinsNs mb ∧ ∀ y : Str, y ≠ "__name__" → mb y = bootBuiltins y := by
      obtain ⟨mb, b1, b2⟩ := I1.ok.mod.blt
      exact ⟨mb, b1.keeps I1.bk, b2⟩
    have hkin := I1.kIn
    obtain ⟨hp, g, dr, tk, os⟩ := s1
    refine wpAny_call (PySem.IxX.ix_made T hkin hglob hbl hlim (by have := hr.dp; omega) hi fun h' tk' e d M => ?_)
    show MkP X pins σ Q (.ref e) ⟨h', g, dr, tk', os⟩
    obtain ⟨oe, fv, hoe, hc, hd, hdat, h1⟩ := M.obj
    have hns := M.ns
    obtain ⟨G', g1, g2⟩ := restrict h' fun b => decide (b ≠ e)
    have gk : ∀ b, b ≠ e → G'.get? b = h'.get? b := fun b hb => g1 b (decide_eq_true hb)
    have ge : G'.get? e = none := g2 e (by simp)
    have old : ∀ b o, hp.get? b = some o → G'.get? b = some o := fun b o q => (gk b (Nat.ne_of_lt (Nat.lt_of_lt_of_le (Heap.lt_size q) M.new))).trans (M.keep b o q)
    have ob : ObjOk X.prog X.w (upd H1 d (.xd [(("index" : Str), .int i)])) G' d (.xd [(("index" : Str), .int i)]) :=
      ⟨_, hns.at (fun o q => (gk d M.dne).trans q), fun f => relO_ix (v := .int i) (v' := .int i ti) ⟨ti, rfl⟩ f⟩
    have J : Inv X pins σ (upd H1 d (.xd [(("index" : Str), .int i)])) ⟨G', g, dr, tk', os⟩ := I1.laid (t' := tk') old M.dbig ob
    refine ⟨e, oe, fv, ⟨G', g, dr, tk', os⟩, _, .ref C, some d, rfl, J, fun b o q => ?_, ge, hoe, ⟨hc, hd⟩, hdat, h1, ?_, rfl, I1.bare, raises_own T.exC T.tyC, q1 d (I1.hok.fresh M.dbig)⟩
    · by_cases hb : b = e
      · have q' : G'.get? b = some o := q
        rw [hb, ge] at q'; cases q'
      · exact (gk b hb).symm.trans q
    · rw [upd_ne (Ne.symm M.dne)]
      exact I1.hok.fresh M.new
/-- raise InvalidX(e) -/
def tRaiseIx (C : Addr) (W : WX) (ta : TA) : TS := fun _ σ H => tMkIx C ta σ H fun cls d H' => W cls d σ H'
theorem ps_raiseIx {a : Expr} {ta : TA} {W : WX} {p pos pos2 : Pos} {k : Nat} (hc : X.calm = true) (T : PySem.IxX.IxTxt X.prog X.K X.mg nm C fI) (hr : Room k X.A) (tk : Takes X W) (ha : PA X [a] ta) (hg : Gl X nm) (hdb : (nm == ("__debug__" : Str)) = false := by decide)
    (he : starEach (a :: []) X.env = (false, eval a X.env) :: starEach [] X.env := by rfl) (hpl : (backTo pos (starEach [] X.env)).any (·.1) = false := by rfl) :
    PS X (.Raise (some (.Call (.Name nm p) [a] [] pos)) none pos2) (tRaiseIx C W ta) := ps_raise hc tk (pmk_ix T hr ha hg hdb he hpl)
/-- e.index, e the exception that the suite holds (at a; its class cls, its dict d) -/
def tByIx (C : Addr) (a : Addr) (cls : Value) (d : Option Addr) (te : TE) : TE := fun σ H Q => te σ H fun x H1 => x = .ref a ∧ cls = .ref C ∧ ∃ (dd : Addr) (v : V), d = some dd ∧ H1 dd = some (.xd [(("index" : Str), v)]) ∧ Q v H1
theorem pe_byIx {a : Addr} {oe : Obj} {cls : Value} {d : Option Addr} {pn : List (Addr × Obj)} {e : Expr} {te : TE} {pos : Pos} (T : PySem.IxX.IxTxt X.prog X.K X.mg nm C fI) (hz : Zc cls d oe) (hf : ∃ vs, oe.data = .fields vs) (he : PE (X.suite a ((a, oe) :: pn)) e te)
    (hb : attributeBase e "index" X.env (eval e X.env) = eval e X.env := by rfl) :
    PE (X.suite a ((a, oe) :: pn)) (.Attribute e "index" pos) (tByIx C a cls d te) := by
  refine ⟨fun pins s σ H Q I h => ?_⟩
  refine attr_of hb (thn (he.run pins s σ H _ I h) fun u s1 hh => ?_)
  obtain ⟨x, H1, I1, rx, ex, ec, dd, v, ed, ea, q⟩ := hh
  subst ex
  obtain rfl : u = Value.ref a := rx
  subst ec
  subst ed
  obtain ⟨ha, _⟩ := I1.pin (a, oe) (List.mem_append_left _ List.mem_cons_self)
  obtain ⟨vs, hd⟩ := hf
  have hx : ObjOk X.prog X.w H1 s1.heap dd (.xd [(("index" : Str), v)]) := I1.hok dd _ ea
  obtain ⟨mA, hns, hr⟩ := hx
  obtain ⟨od, ho, hl⟩ := lookIn_ns hns
  have l : List.lookup ("index" : Str) [(("index" : Str), v)] = some v := by simp [List.lookup]
  obtain ⟨u, hu, ru⟩ := RelO.some_of (v := v) (o := mA "index") (by rw [← l]; exact hr "index")
  have J : PySem.W.InstAt s1.heap a oe C (some od) := ⟨ha, hz.1, by unfold PySem.W.notCls; rw [hd] <;> rfl, by rw [hz.2]; exact ho⟩
  exact HandSPX.exc_get I1.kIn J T.ga T.gg T.exC (PySem.W.findObj_own T.hdC T.noN rfl (by rw [hl, hu])) (handed_of ru) ⟨v, H1, I1.tok _, ru, q⟩
end
end L2

set_option maxHeartbeats 4000000
/-! isinstance of a caught error that has a dict; count of a list of flat things; a lambda's call in a try whose suite reads the state -/
namespace Ru
open PySem PySem.Spec PyProof.Rows L2 LamX
/-! ### isinstance(e, c) -/
/-- the error has no dict, or one that is tracked -/
def DictAt (d : Option Addr) (H : Hp) : Prop := d = none ∨ ∃ (dd : Addr) (fs : List (Str × V)), d = some dd ∧ H dd = some (.xd fs)
def rIsX (K : PySem.W.Frag) (a : Addr) (cls : Value) (d : Option Addr) : List V → Hp → VK → Prop := fun xs H Q =>
  ∃ (D : Addr) (c : V) (cv : Value) (b : Bool), cls = .ref D ∧ ExcC K D ∧ DictAt d H ∧ xs = [.ref a, c] ∧ (∀ u, RelV c u → u = cv) ∧ PySem.W.kitOne K (.ref D) cv = some b ∧ Q (.bl b) H
theorem call_isX {X : Cx} {a : Addr} {cls : Value} {d : Option Addr} {oe : Obj} {pn : List (Addr × Obj)} (hz : Zc cls d oe) (hf : ∃ vs, oe.data = .fields vs) : CallR (X.suite a ((a, oe) :: pn)) (.builtin "isinstance") (rIsX X.K a cls d) := by
  intro pins s σ H xs us Q I r h
  obtain ⟨D, c, cv, b, rfl, C, hd, rfl, hcv, e, q⟩ := h
  obtain ⟨v1, us', rfl, r1, rr⟩ : ∃ v1 us', us = v1 :: us' ∧ RelV (.ref a) v1 ∧ Vals [c] us' := by cases r with | cons p q => exact ⟨_, _, rfl, p, q⟩
  obtain ⟨v2, rfl, r2⟩ := rr.one
  obtain rfl : v1 = Value.ref a := r1
  obtain rfl := hcv _ r2
  have hp := (I.pin (a, oe) (List.mem_append_left _ List.mem_cons_self)).1
  obtain ⟨vs, hv⟩ := hf
  obtain ⟨cd, hcd, _⟩ := PySem.W.any_some C.hd
  have hcl : (PySem.W.clsIn X.K D).isSome = true := by rw [hcd]; rfl
  have fin : ∀ od : Option Obj, PySem.W.InstAt s.heap a oe D od → wpAny (model X.prog X.w) (X.suite a ((a, oe) :: pn)).A (call (.builtin "isinstance") [.ref a, v2]) (EP (X.suite a ((a, oe) :: pn)) pins σ Q) (X.suite a ((a, oe) :: pn)).xe s := fun od J =>
    PySem.W.kia_one (PySem.W.kitx_exc (od := od) hcl C.hg C.hk C.hs C.ha C.hn C.ht C.hm) I.kIn J e (fun z => nomatch z) fun tk => ⟨.bl b, H, I.kept (t' := tk) fun _ _ z => z, rfl, q⟩
  rcases hd with rfl | ⟨dd, fs, rfl, hx⟩
  · exact fin none ⟨hp, hz.1, by unfold PySem.W.notCls; rw [hv] <;> rfl, by rw [hz.2]; trivial⟩
  · have ob : ObjOk X.prog X.w H s.heap dd (.xd fs) := I.hok dd _ hx
    obtain ⟨mA, hns, hr⟩ := ob
    obtain ⟨od, ho, hl⟩ := lookIn_ns hns
    exact fin (some od) ⟨hp, hz.1, by unfold PySem.W.notCls; rw [hv] <;> rfl, by rw [hz.2]; exact ho⟩
/-! ### xs.count(y) -/
def rCntF (K : PySem.W.Frag) : V → List V → Hp → VK → Prop := fun x xs H Q => ∃ (p : Addr) (ys : List V) (y : V), x = .ref p ∧ xs = [y] ∧ SqL K H p ys ∧ flatV y = true ∧ ys.all flatV = true ∧ Q (.int (ys.countP (fun z => eqV z y) : Nat)) H
theorem cnt_flat {y : V} : ∀ {ys : List V} {us : List Value}, Vals ys us → ys.all flatV = true → us.countP (eqU y) = ys.countP (fun z => eqV z y)
  | _, _, .nil, _ => rfl
  | _, _, .cons r rs, h => by
    simp only [List.all_cons, Bool.and_eq_true] at h
    rw [List.countP_cons, List.countP_cons, cnt_flat rs h.2, eqU_of r h.1]
theorem mt_countF {X : Cx} : MtR X "list.count" (rCntF X.K) := by
  intro pins s σ H x xs v us Q I rx rxs h
  obtain ⟨p, ys, y, rfl, rfl, hs, fy, fys, q⟩ := h
  obtain rfl : v = Value.ref p := rx
  obtain ⟨uy, rfl, ry⟩ := rxs.one
  obtain ⟨its, rv, ⟨⟨cls, dd, data, sl⟩, n, ho, hc, hdn, hd⟩, hlen⟩ := I.list hs
  obtain rfl : cls = .type "list" := hc
  obtain rfl : data = .seq its.toArray n := hd
  refine call_meets PySem.F.slot_list_count ⟨_, ho, rfl⟩ PySem.F.entry_list_count (PySem.F.args_list_count_2 _ _)
    (SeqAt.list_countAt p its.toArray n dd sl uy (eqU y)) ⟨ho, fun u hu => mem_eqAt ry fy rv fys u (by simpa using hu), ?_⟩
  refine ⟨.int (ys.countP (fun z => eqV z y) : Nat), H, I.tok _, ⟨s.toks, ?_⟩, q⟩
  rw [show its.toArray.toList = its by simp, cnt_flat rv fys]
/-! ### a lambda without parameters: made, handed to a def, called there in a try -/
section
variable {X : Cx} {pins : List (Addr × Obj)} {σ : L2.St} {H : Hp} {s : Shared}
/-- the call: what the try around takes may rest on the state at the call -/
def tAct (f c' : Addr) (q : Str) (tl : XK → Hp → VK → Prop) (W : WX) : TE := fun σz Hz Q =>
  σz[0]? = some (some (.ref f)) ∧ Hz c' = some (CodeO c' q) ∧ ∃ Ez : XK, (∀ cls d Hy, Ez cls d Hy → W cls d σz Hy) ∧ tl Ez Hz Q
theorem pe_call_lam {sg : Scope} {g f c' : Addr} {cdg pm ctv : Value} {Ng : List Str} {qg a : Str} {params : Arguments} {body : Expr} {scope : Scope} {k : Nat} {pn : List (Addr × Obj)} {xe : Value → Shared → Prop} {W : WX} {t : XK → TE} {pa pc : Pos}
    (I : Inv X pins σ H s) (L : LamS X.env.scope scope)
    (lam : s.heap.get? f = some (PySem.W.kla_obj "<lambda>" (X.env.qual ++ "<lambda>") params body scope (cloFrom X.env.cells scope.names []) pm c' ctv)) (nf : H f = none) (nfr : f ∉ frs X.stack)
    (bnd : bindArgs (PySem.W.kla_fn "<lambda>" (X.env.qual ++ "<lambda>") params body scope (cloFrom X.env.cells scope.names []) pm (.ref c') ctv) ⟨[], []⟩ = pure [])
    (tk : Takes ((cxOf C8.CX0 X.prog X.w X.K X.mg X.base Ng qg sg g cdg X.A X.stack s H C8.E0).tr pn xe) W) (hr : Room (k + 1) (X.A.deeper (envOfC qg sg s.heap.objs.size g cdg)))
    (hb : ∀ (A : Around) (outer : List Env) (sB : Shared) (HB : Hp) (Ez : XK), Room k (A.deeper (lamEnv X scope sB.heap.objs.size f c')) → PE (lamCx X A outer sB HB Ez scope f c') body (t Ez))
    (hN : Ng[0]? = some a) (hv : Vis sg a) (hd : (a == ("__debug__" : Str)) = false) (hcd : (a == ("__classdict__" : Str)) = false) :
    PE ((cxOf C8.CX0 X.prog X.w X.K X.mg X.base Ng qg sg g cdg X.A X.stack s H C8.E0).tr pn xe) (.Call (.Name a pa) [] [] pc) (tAct f c' (X.env.qual ++ "<lambda>") (fun Ez Hz Q => t Ez σ Hz Q) W) := by
  refine ⟨fun pz sz σz Hz Q Iz h => ?_⟩
  obtain ⟨hs, hc, Ez, hW, ht⟩ := h
  refine wpAny_Call_Name_kw (thn ((pe_var (pos := pa) (i := 0) hN hv hd hcd).run pz sz σz Hz (fun v Hy => v = .ref f ∧ Hy = Hz) Iz ⟨.ref f, hs, rfl, rfl⟩) fun u sy ⟨v, Hy, Iy, ry, qy⟩ => ?_)
  obtain ⟨rfl, rfl⟩ := qy
  obtain rfl : u = Value.ref f := ry
  have lamY := Iy.base.keep f _ lam nf nfr (fun z => nomatch (show f ∈ ([] : List Addr) from z))
  refine PySem.W.callWith_F0 ⟨_, _, _, _, lamY⟩ ?_
  have un : Un (frs X.stack) [] H Hy s.heap sy.heap := Iy.base
  obtain ⟨⟨oc, vs, tc, hoc, hdc, hvc⟩, _, _⟩ := Iy.hok c' _ hc
  have run : codeAny (model X.prog X.w) (X.A.deeper (envOfC qg sg s.heap.objs.size g cdg)) (.call (.ref f) ⟨[], []⟩)
      (CR (L2.CX X.prog X.w) (envOfC qg sg s.heap.objs.size g cdg :: X.stack) X.prog X.w Hy sy Q Ez) sy := by
    refine PySem.W.kla_callFunE hr.depth lamY rfl L.co L.gen rfl ⟨c', oc, vs, tc, rfl, hoc, hdc, hvc⟩ ?_
    rw [bnd]
    have own1 : ∀ y ∈ scope.names, y.2 ≠ NameKind.cell := fun y hy => (L.own y hy).2
    refine wpAny_pure (wpAny_newFunctionEnv own1 (fun y hy => absurd hy (by simp)) (fun hB nsB sb => ⟨Iy.nolimit.fresh _ sb, ?_⟩) L.kind)
    show codeAny _ _ (.expr body (lamEnv X scope sy.heap.objs.size f c')) _ _
    have kp : ∀ b o, sy.heap.get? b = some o → hB.get? b = some o := fun b o e => sb.extBut b o (Nat.ne_of_lt (Heap.lt_size e)) (Heap.get?_push_of_some _ e)
    have J := lam_start2 (f := f) (c' := c') (E := Ez) (tk := sy.toks + ([] : List (Str × Value)).length) I L Iy.env0 hr.hd un nsB kp
    refine PySem.W.kla_codeExpr (wpAny_mono ((hb _ _ sy Hy Ez (hr.deeper _)).run [] _ _ Hy Q J ht) (fun v sx hq => ?_) fun e sx hq => hq)
    obtain ⟨vv, Hx, Jx, rv, q⟩ := hq
    exact ⟨vv, Hx, Jx.os, Jx.bare, Jx.base, Jx.hok, rv, q⟩
  refine wpAny_call (codeAny_mono run fun r sx hq => ?_)
  cases r with
  | error e => exact tk e sx (XE.of_call Iy (fun cls d Hx hE => hW cls d Hx hE) hq)
  | ok fl =>
    cases fl with
    | ret u => exact Iy.after hq
    | next => exact False.elim hq
    | brk => exact False.elim hq
    | cont => exact False.elim hq
end
/-- the def that calls what it got (its first parameter a); TT: what it makes of the lambda's reading -/
def Gives (X : Cx) (Ng : List Str) (x : Str) (sg : Scope) (g : Addr) (cdg : Value) (bg : List Stmt) (a q : Str) (TT : (XK → Hp → VK → Prop) → Hp → VK → Prop) : Prop :=
  ∀ (f c' : Addr) (s : Shared) (H : Hp) (Q : VK) (tl : XK → Hp → VK → Prop), Room 9 (X.A.deeper (envOfC x sg s.heap.objs.size g cdg)) →
    (∀ (W : WX) (pn : List (Addr × Obj)) (xe : Value → Shared → Prop) (pa pc : Pos), Takes ((cxOf C8.CX0 X.prog X.w X.K X.mg X.base Ng x sg g cdg X.A X.stack s H C8.E0).tr pn xe) W →
      PE ((cxOf C8.CX0 X.prog X.w X.K X.mg X.base Ng x sg g cdg X.A X.stack s H C8.E0).tr pn xe) (.Call (.Name a pa) [] [] pc) (tAct f c' q tl W)) →
    H c' = some (CodeO c' q) → TT tl H Q →
    ∃ t, PSs (cxOf C8.CX0 X.prog X.w X.K X.mg X.base Ng x sg g cdg X.A X.stack s H C8.E0) bg t ∧ t { nx := fun _ H' => Q .non H', rt := Q } (L2.start Ng [.ref f]) H
section
variable {X : Cx}
/-- x(lambda: body) -/
theorem pe_give {T : List (Addr × Str)} {TT : (XK → Hp → VK → Prop) → Hp → VK → Prop} {x a : Str} {g c P : Addr} {k : Nat} {pg : Arguments} {bg : List Stmt} {sg : Scope} {dV kV doc pm cdv ct oc : Value} {an od : Option Addr} {osl : Array (Option Value)} {Ng : List Str}
    {params : Arguments} {body : Expr} {scope : Scope} {t : XK → TE} {p lpos pos : Pos} (hg : Gl X x) (hm : X.mg x = some (.ref g)) (hk : PySem.W.keepIn X.K (.ref g) = true)
    (lk : X.K.lookup g = some ⟨oc, od, .func (PySem.W.fnOf x x pg bg sg dV kV doc pm an cdv ct), osl⟩) (hcg : PySem.W.codeIn X.K cdv x = true) (hbi : L2.Binds X.K (PySem.W.fnOf x x pg bg sg dV kV doc pm an cdv ct) [a] [])
    (Sg : FnScope Ng [a] sg) (hNg : Ng[0]? = some a) (hva : Vis sg a) (hG : Gives X Ng x sg g cdv bg a (X.env.qual ++ "<lambda>") TT)
    (TB : TabB X.base X.mg c P) (hcode : X.env.code = .ref c) (hmT : (P, X.env.qual ++ "<lambda>") ∈ T) (hu : ∀ p ∈ T, p.1 = P → p.2 = X.env.qual ++ "<lambda>") (hr : Room (k + 2) X.A) (h9 : 9 ≤ k + 1) (L : LamS X.env.scope scope) (hdef : defaultsOf params X.env = ([], []))
    (bnd : ∀ (q : Str) (cl : List (Str × Addr)) (pm cv ctv : Value), bindArgs (PySem.W.kla_fn "<lambda>" q params body scope cl pm cv ctv) ⟨[], []⟩ = pure [])
    (hb : ∀ (A : Around) (outer : List Env) (s : Shared) (H : Hp) (E : XK) (f c' : Addr), Room k (A.deeper (lamEnv X scope s.heap.objs.size f c')) → PE (lamCx X A outer s H E scope f c') body (t E))
    (hdb : (x == ("__debug__" : Str)) = false := by decide) (hd : (a == ("__debug__" : Str)) = false := by decide) (hcd : (a == ("__classdict__" : Str)) = false := by decide) :
    PE X (.Call (.Name x p) [.Lambda params body scope lpos] [] pos) (tLam T TT t) := by
  refine ⟨fun pins s σ H Q I h => ?_⟩
  obtain ⟨hT, go⟩ := h
  refine wpAny_Call_Name_kw (ld_glob I hg hm ?_ hdb)
  refine PySem.W.callWith_K (h₀ := X.base) I.ok.mod.kin hk ?_ (by rfl) (by rfl)
  show wpAny _ _ (spliced ((false, eval (.Lambda params body scope lpos) X.env) :: backTo pos (starEach [] X.env))) _ _ s
  refine Calls.spliced_cons (lam_make2 I TB hcode hmT hu hT hdef (L.has I.ok) fun f c' pm' ctv Hy sy Iy eN Ty lamY nf nfr hco => ?_)
  refine Calls.spliced_nil ⟨Iy.kIn, ?_⟩
  have run : codeAny (model X.prog X.w) X.A (.call (.ref g) ⟨[.ref f], []⟩) (CR C8.CX0 X.stack X.prog X.w Hy sy Q C8.E0) sy := by
    refine run_ofS (N := Ng) (ps := [a]) (us := [.ref f]) (vs := [.ref f]) lk hcg Sg hr Iy.env0 (hbi sy [.ref f] Iy.kIn rfl) (.cons rfl .nil) rfl fun hr' => ?_
    exact hG f c' sy Hy Q (fun E Hz Q' => t E σ Hz Q') (hr'.mono h9) (fun W pn xe pa pc tk => pe_call_lam Iy L lamY nf nfr (bnd _ _ _ _ _) tk hr' (fun A outer s H E hr2 => hb A outer s H E f c' hr2) hNg hva hd hcd) hco (go Hy eN Ty)
  refine wpAny_call (codeAny_mono run fun r sx hq => ?_)
  cases r with
  | error e => exact (show False from hq).elim
  | ok fl =>
    cases fl with
    | ret u => exact Iy.after hq
    | next => exact False.elim hq
    | brk => exact False.elim hq
    | cont => exact False.elim hq
end
end Ru

set_option maxHeartbeats 4000000
/-! own operators: a + b of two instances of a class with its own __add__; len(a) with its own __len__ -/
namespace Ru
open PySem PySem.Spec PyProof.Rows L2 StX
/-- the class stands first in its own order -/
def mroHd (K : PySem.W.Frag) (C : Addr) : Bool := match PySem.W.clsIn K C with
  | some cd => (match cd.mro with
    | .ref D :: _ => decide (D = C)
    | _ => false)
  | none => false
section
variable {prog : Program} {w : World} {A : Around} {E : Value → Shared → Prop} {s : Shared} {K : PySem.W.Frag} {C f : Addr} {nm : String}
theorem mro_hd {h : Heap} (X : K.In h) (hm : mroHd K C = true) : ∃ rest, PySem.W.Looks (model prog w) h (mroOf (.ref C)) (.ref C :: rest) := by
  unfold mroHd at hm
  cases e : PySem.W.clsIn K C with
  | none => rw [e] at hm; cases hm
  | some cd =>
    rw [e] at hm
    have L : PySem.W.Looks (model prog w) h (mroOf (.ref C)) cd.mro := (PySem.W.looks_clsIn X e).andThen .now
    cases em : cd.mro with
    | nil =>
      have hm2 : (match cd.mro with
        | .ref D :: _ => decide (D = C)
        | _ => false) = true := hm
      rw [em] at hm2; cases hm2
    | cons v rest =>
      have hm2 : (match cd.mro with
        | .ref D :: _ => decide (D = C)
        | _ => false) = true := hm
      rw [em] at hm2 L
      cases v with
      | ref D =>
        have e2 : D = C := of_decide_eq_true hm2
        rw [e2] at L
        exact ⟨rest, L⟩
      | _ => cases hm2
theorem fills_own {h : Heap} {g : Array GenState} {d : Drawn} {t : Nat} {os : OsState} {Q : Bool → Shared → Prop} (X : K.In h) (hm : mroHd K C = true) (ha : PySem.W.findIn K (.ref C) (dunder nm) = some (some (.ref f))) (hq : Q true ⟨h, g, d, t, os⟩) :
    wpAny (model prog w) A (fillsNumberSlot (.ref C) nm) Q E ⟨h, g, d, t, os⟩ := by
  obtain ⟨rest, L⟩ := mro_hd (prog := prog) (w := w) X hm
  unfold fillsNumberSlot
  refine wpAny_bind (L.at ?_)
  simp only [List.anyM]
  refine wpAny_bind (wpAny_bind ?_)
  refine wpAny_bind ((PySem.W.looks_findIn X ha).at ?_)
  have ho : ownNameWrapper (.ref f) (dunder nm) = false := rfl
  dsimp only
  rw [ho]
  exact wpAny_pure (wpAny_pure (wpAny_pure hq))
/-- a.m(b) by the class, its answer never NotImplemented -/
theorem try_own {a b : Addr} {m : Str} {Q : Option Value → Shared → Prop} (X : K.In s.heap) {oa : Obj} (ho : s.heap.get? a = some oa) (hc : oa.cls = .ref C) (ha : PySem.W.findIn K (.ref C) m = some (some (.ref f))) (hf : PySem.W.isFn K (.ref f) = true)
    (h : wpAny (model prog w) A (call (.ref f) [.ref a, .ref b]) (fun v s' => v ≠ .notImplemented ∧ Q (some v) s') E s) : wpAny (model prog w) A (tryMethod (.ref a) m (.ref b)) Q E s := by
  obtain ⟨hh, g, d, t, os⟩ := s
  have sp : PySem.W.Looks (model prog w) hh (specialOf (.ref a) m) (some (.ref f)) := (NwA.type_at ho hc).andThen (PySem.W.looks_findIn X ha)
  unfold tryMethod callSpecial?
  refine wpAny_bind (wpAny_bind (sp.at ?_))
  refine wpAny_holding (wpAny_bind ((PySem.W.bind_fn X _ (beq_iff_eq.mp hf)).at ?_))
  refine wpAny_bind (wpAny_mono h (fun v s' ⟨hn, hq⟩ => ?_) fun _ _ z => z)
  refine wpAny_pure ?_
  cases v <;> first | exact wpAny_pure hq | exact absurd rfl hn
theorem bin1_own {a b : Addr} {Q : Option Value → Shared → Prop} (X : K.In s.heap) (hm : mroHd K C = true) {oa ob : Obj} (ha : s.heap.get? a = some oa) (hac : oa.cls = .ref C) (hb : s.heap.get? b = some ob) (hbc : ob.cls = .ref C)
    (hi : PySem.W.findIn K (.ref C) (dunder nm) = some (some (.ref f))) (hf : PySem.W.isFn K (.ref f) = true)
    (h : wpAny (model prog w) A (call (.ref f) [.ref a, .ref b]) (fun v s' => v ≠ .notImplemented ∧ Q (some v) s') E s) : wpAny (model prog w) A (binaryOp1 nm (.ref a) (.ref b)) Q E s := by
  have ht : ∀ {α : Type} {x : α}, True := fun {_ _} => trivial
  obtain ⟨hh, g, d, t, os⟩ := s
  simp only [binaryOp1]
  refine wpAny_bind ((NwA.type_at ha hac).at (wpAny_bind ((NwA.type_at hb hbc).at (wpAny_bind (fills_own X hm hi ?_)))))
  simp only [beq_self_eq_true, if_true, pure_bind, Bool.and_false, Bool.false_and, Bool.false_eq_true, if_false]
  exact wpAny_bind (try_own X ha hac hi hf (wpAny_mono h (fun v s' ⟨hn, hq⟩ => ⟨hn, wpAny_pure hq⟩) fun _ _ z => z))
end
section
variable {X : Cx} {CX : CXT} {k : Nat} {f C : Addr} {fd : FuncData} {ps : List Str} {sp : Sp} {E : XK}
theorem relV_ni {v : V} {u : Value} (r : RelV v u) : u ≠ .notImplemented := fun z => by
  subst z
  cases v <;> first | (obtain ⟨_, e⟩ := r; cases e) | cases r
theorem ins_obj {P : Program} {w : World} {H : Hp} {h : Heap} {a C dx : Addr} {fs : List (Str × V)} (hok : HOk P w H h) (e : H a = some (.ins C dx fs)) : ∃ oa, h.get? a = some oa ∧ oa.cls = .ref C := by
  obtain ⟨mA, O, r, _, _, _⟩ := ins_get hok e
  exact ⟨_, O.obj, rfl⟩
/-- a + b of instances of C -/
def rOwnB (C : Addr) (sp : Sp) (E : XK) : R2 := fun x y H Q => ∃ a dx fs b dy gs, x = .ref a ∧ y = .ref b ∧ H a = some (.ins C dx fs) ∧ H b = some (.ins C dy gs) ∧ sp [.ref a, .ref b] H Q E
theorem op_ownAdd (hm : mroHd X.K C = true) (mt : Meth X.K C "__add__" f) (F : FnOk X.prog X.w X.K X.mg X.base CX k f fd ps sp) (hb : Binds X.K fd ps []) (hr : Room k X.A) (hx : Passes CX X E) : OpR X (binaryOp .Add) (rOwnB C sp E) := by
  intro pins s σ H x y v u Q I rx ry h
  obtain ⟨a, dx, fs, b, dy, gs, rfl, rfl, ea, eb, q⟩ := h
  obtain rfl : v = Value.ref a := rx
  obtain rfl : u = Value.ref b := ry
  obtain ⟨oa, ha, hac⟩ := ins_obj I.hok ea
  obtain ⟨ob, hb', hbc⟩ := ins_obj I.hok eb
  unfold binaryOp
  refine wpAny_holding (wpAny_bind (bin1_own (nm := "add") (C := C) (f := f) I.kIn hm ha hac hb' hbc mt.at_ mt.fn ?_))
  refine thn (run_fn (us := [.ref a, .ref b]) (vs := [.ref a, .ref b]) F hr hb .nil hx I (.cons rfl (.cons rfl .nil)) q) fun v s' e => ?_
  have ev := e
  obtain ⟨vv, H', I', rv, _⟩ := e
  exact ⟨relV_ni rv, wpAny_pure ev⟩
/-- len(a), a an instance of C with its own __len__ -/
theorem call_lenOwn (mt : Meth X.K C "__len__" f) (F : FnOk X.prog X.w X.K X.mg X.base CX k f fd ps sp) (hb : Binds X.K fd ps []) (hr : Room (k + 1) X.A) (hx : Passes CX X.nox E) :
    CallR X (.builtin "len") (fun xs H Q => ∃ a dx fs, xs = [.ref a] ∧ H a = some (.ins C dx fs) ∧ sp [.ref a] H (fun v H' => ∃ n : Nat, v = .int n ∧ n < 2 ^ 62 ∧ Q (.int n) H') E) := by
  intro pins s σ H xs us Q I r h
  obtain ⟨a, dx, fs, rfl, ea, q⟩ := h
  obtain ⟨u, rfl, ru⟩ := r.one
  obtain rfl : u = Value.ref a := ru
  obtain ⟨oa, ha, hac⟩ := ins_obj I.hok ea
  refine Calls.call_function_entry kind_len plain_len entry_len (args_len1 _) ?_
  have X0 := I.kIn
  have run : codeAny (model X.prog X.w) X.A.in1 (.call (.ref f) ⟨[.ref a], []⟩) (CR CX X.stack X.prog X.w H s (fun v H' => ∃ n : Nat, v = .int n ∧ n < 2 ^ 62 ∧ Q (.int n) H') E) s := by
    refine F.run X.A.in1 X.stack s H ⟨[.ref a], []⟩ [.ref a] [.ref a] _ E hr.in1 I.env0.in1 (hb s [.ref a] X0 ?_) (.cons rfl .nil) q
    have e := F.len _ _ _ _ q
    exact e
  have sp1 : PySem.W.Looks (model X.prog X.w) s.heap (specialOf (.ref a) (PySem.Str.ofString "__len__")) (some (.ref f)) := (NwA.type_at ha hac).andThen (PySem.W.looks_findIn X0 mt.at_)
  unfold Builtin.«len»
  refine wpAny_bind (m := oneArg "len" _) (wpAny_pure ?_)
  obtain ⟨hh, g, d, t, os⟩ := s
  refine wpAny_bind (m := callSpecial? (.ref a) (PySem.Str.ofString "__len__")) ?_
  unfold callSpecial?
  refine wpAny_bind (sp1.at ?_)
  refine wpAny_holding (wpAny_bind ((PySem.W.bind_fn X0 _ (beq_iff_eq.mp mt.fn)).at ?_))
  refine wpAny_bind (wpAny_call (codeAny_mono run fun r s' hq => ?_))
  cases r with
  | error er => exact False.elim (hx pins σ H _ er s' (I.wish _) hq)
  | ok fl =>
    cases fl with
    | ret u =>
      obtain ⟨v, H', I3, rv, n, rfl, hn, q3⟩ := I.after hq
      obtain ⟨tn, rfl⟩ := rv
      refine wpAny_pure ?_
      show wpAny _ _ (holding [Value.int (n : Int) tn] (asIndex (Value.int (n : Int) tn)) >>= _) _ _ _
      refine wpAny_bind (wpAny_holding (wpAny_pure ?_))
      refine wpAny_bind (wpAny_letGo ?_)
      have n0 : ¬ (((n : Nat) : Int) < 0) := by omega
      have n1 : ¬ (((n : Nat) : Int) ≥ 2 ^ 63) := by
        have : (n : Int) < 2 ^ 62 := by exact_mod_cast hn
        omega
      simp only [n0, n1, if_false]
      exact wpAny_bind (wpAny_mkInt (wpAny_pure ⟨_, rfl, ⟨.int (n : Int), H', I3.tok _, ⟨_, rfl⟩, q3⟩⟩))
    | next => exact False.elim hq
    | brk => exact False.elim hq
    | cont => exact False.elim hq
end
section
variable {X : Cx} {CX : CXT} {k i : Nat} {f C : Addr} {fd : FuncData} {ps : List Str} {sp : Sp} {E : XK} {x : Str} {e : Expr} {es : List Expr} {t : TA} {te : TE} {p pos sq : Pos}
theorem toR {P : Program} {w : World} {K : PySem.W.Frag} {mg : Str → Option Value} {base : Heap} (F : FnOk P w K mg base CX k f fd ps sp) (hb : Binds K fd ps []) : FnR P w K mg base CX k f sp := by
  intro A outer s H us vs Q E hr e0 r h
  have hl : us.length = ps.length := by rw [← r.length]; exact F.len _ _ _ _ h
  have KX : K.In s.heap := e0.mod.kin.keeps fun b o q => (e0.bs b o q).1
  have z := hb s us KX (by rw [List.append_nil]; exact hl)
  rw [List.append_nil] at z
  exact F.run A outer s H ⟨us, []⟩ us vs Q E hr e0 z r h
/-- x(e, ..), x a name of the def that holds the class at C -/
def tMakeL (C : Addr) (i : Nat) (sp : Sp) (E : XK) (t : TA) : TE := fun σ H Q => σ[i]? = some (some (.ref C)) ∧ tMakeR C sp E t σ H Q
theorem pe_makeL (M : Mk X.K C f) (F : FnR X.prog X.w X.K X.mg X.base CX k f sp) (hr : Room (k + 1) X.A) (hN : X.N[i]? = some x) (hv : Vis X.env.scope x) (hx : Passes CX X E) (ha : PA X (e :: es) t)
    (hdb : (x == ("__debug__" : Str)) = false := by decide) (hcd : (x == ("__classdict__" : Str)) = false := by decide)
    (he : starEach (e :: es) X.env = (false, eval e X.env) :: starEach es X.env := by rfl) (hpl : (backTo pos (starEach es X.env)).any (·.1) = false := by rfl) : PE X (.Call (.Name x p) (e :: es) [] pos) (tMakeL C i sp E t) := by
  refine ⟨fun pins s σ H Q I h => ?_⟩
  obtain ⟨hs, ht⟩ := h
  refine wpAny_Call_Name_kw (thn ((pe_var (pos := p) hN hv hdb hcd).run pins s σ H (fun v Hy => v = .ref C ∧ Hy = H) I ⟨.ref C, hs, rfl, rfl⟩) fun u sy ⟨v, Hy, Iy, ry, qy⟩ => ?_)
  obtain ⟨rfl, rfl⟩ := qy
  obtain rfl : u = Value.ref C := ry
  exact PySem.W.callWith_K (h₀ := X.base) I.ok.mod.kin M.kp (thn (ha.run pos pins sy σ _ _ Iy ht) fun us sz ⟨vs, Hz, Iz, r, q⟩ => ⟨Iz.kIn, run_makeR M F hr hx Iz r q⟩) he hpl
/-- x(), x the class at C -/
theorem pe_makeR0 (M : Mk X.K C f) (F : FnR X.prog X.w X.K X.mg X.base CX k f sp) (hr : Room (k + 1) X.A) (hg : Gl X x) (hm : X.mg x = some (.ref C)) (hx : Passes CX X E) (hdb : (x == ("__debug__" : Str)) = false := by decide) :
    PE X (.Call (.Name x p) [] [] pos) (tMakeR C sp E tNil) := by
  refine ⟨fun pins s σ H Q I h => ?_⟩
  refine wpAny_Call_Name_kw (ld_glob I hg hm ?_ hdb)
  exact PySem.W.callWith_K0 I.kIn M.kp (run_makeR (us := []) (vs := []) M F hr hx I .nil h)
/-- x(*e), x the class at C -/
def tMakeSt (K : PySem.W.Frag) (C : Addr) (sp : Sp) (E : XK) (te : TE) : TE := fun σ H Q => te σ H fun y H1 => ∃ a xs, y = V.ref a ∧ (SqT K H1 a xs ∨ SqL K H1 a xs) ∧
  ∀ x dx, H1 x = Option.none → H1 dx = Option.none → dx ≠ x → sp (V.ref x :: xs) (upd (upd H1 dx (.own x)) x (.ins C dx [])) (fun v H2 => v = .non ∧ Q (.ref x) H2) E
theorem pe_makeSt (M : Mk X.K C f) (F : FnR X.prog X.w X.K X.mg X.base CX k f sp) (hr : Room (k + 1) X.A) (hg : Gl X x) (hm : X.mg x = some (.ref C)) (hx : Passes CX X E) (he : PE X e te) (hdb : (x == ("__debug__" : Str)) = false := by decide)
    (hst : starEach [.Starred e sq] X.env = [(true, eval e X.env)] := by rfl) : PE X (.Call (.Name x p) [.Starred e sq] [] pos) (tMakeSt X.K C sp E te) := by
  refine ⟨fun pins s σ H Q I h => ?_⟩
  refine wpAny_Call_Name_kw (ld_glob I hg hm ?_ hdb)
  refine PySem.W.callWith_S (h₀ := X.base) I.ok.mod.kin M.kp (thn (he.run pins s σ H _ I h) fun v sy ⟨y, Hy, Iy, ry, a, xs, ey, hxs, q⟩ => ?_) hst
  subst ey
  obtain rfl : v = Value.ref a := ry
  exact star_any Iy hxs fun us sz Iz rv => ⟨Iz.kIn, run_makeR M F hr hx Iz rv q⟩
/-- nothing is raised there -/
theorem passNo {P : Program} {w : World} (hp : X.prog = P) (hw : X.w = w) : Passes (L2.CX P w) X (fun _ _ _ => False) := fun pins σ H s e s' I c => by
  obtain ⟨_, _, _, _, _, _, _, _, _, _, _, _, z⟩ := c
  exact z.elim
/-- lcm(i, j) -/
def rLcm : List V → Hp → VK → Prop := fun vs H Q => ∃ i j : Nat, vs = [.int i, .int j] ∧ i < 2 ^ 62 ∧ j < 2 ^ 62 ∧ Q (.int ((Nat.lcm i j : Nat) : Int)) H
theorem cr_lcm : CallR X (.builtin "math.lcm") rLcm := by
  intro pins s σ H vs us Q I r h
  obtain ⟨i, j, rfl, hi, hj, q⟩ := h
  obtain ⟨u1, u2, rfl, r1, r2⟩ := r.two
  obtain ⟨t1, rfl⟩ := r1
  obtain ⟨t2, rfl⟩ := r2
  have e1 : ((i : Int)).natAbs = i := rfl
  have e2 : ((j : Int)).natAbs = j := rfl
  exact PySem.W.mc_lcm (by rw [e1]; exact Nat.lt_trans hi (by decide)) (by rw [e2]; exact Nat.lt_trans hj (by decide)) fun _ => ⟨.int _, H, I.tok _, ⟨_, rfl⟩, q⟩
end
end Ru

namespace W6
open PySem PySem.Spec PyProof.Rows L2
def top (i : Nat) : Stmt := PySem.Challenge.pw_warmswitch_k10_whole_hidden_thresholds.main.body.getD i (.Pass ⟨0, 0, 0, 0⟩)
abbrev s_first_invalid : Stmt := top 3
abbrev s_Drift_init : Stmt := inClass (top 11) 0
abbrev s_Drift_sum_to : Stmt := inClass (top 11) 1
abbrev s_both_drifts : Stmt := top 12
abbrev s_Stretch_init : Stmt := inClass (top 13) 0
abbrev s_Stretch_degrees_at : Stmt := inClass (top 13) 1
abbrev s_Stretch_continued : Stmt := inClass (top 13) 3
abbrev s_Stretch_switched : Stmt := inClass (top 13) 4
abbrev s_Stretch_extreme_before : Stmt := inClass (top 13) 7
abbrev s_more_extreme : Stmt := top 14
abbrev s_check_number : Stmt := top 24
abbrev s_Weather_init : Stmt := inClass (top 27) 2
abbrev s_check_gain : Stmt := top 32
abbrev s_ThresholdObserver_init : Stmt := inClass (top 38) 0
abbrev s_ThresholdObserver_see_switching : Stmt := inClass (top 38) 5
abbrev s_ThresholdObserver_see_rest : Stmt := inClass (top 38) 6
abbrev s_ThresholdObserver_ranges_after_rest : Stmt := inClass (top 38) 7
abbrev s_ThresholdObserver_accept : Stmt := inClass (top 38) 8
abbrev s_check_ranges : Stmt := top 39
abbrev s__law_mix : Stmt := top 41
abbrev s__law_next : Stmt := top 42
abbrev s__law_alike : Stmt := top 43
abbrev s__law_error : Stmt := top 44
abbrev s__law_changes : Stmt := top 45
abbrev s__law_weather : Stmt := top 46
abbrev s__law_setting : Stmt := top 47
abbrev s__law_told : Stmt := top 48
abbrev s__law_agrees : Stmt := top 50
abbrev s__law_ranges : Stmt := top 51
abbrev s__law_ends_right : Stmt := top 52
abbrev s_law : Stmt := top 53
abbrev s_Weather_changes : Stmt := inClass (top 27) 4
abbrev s_ThresholdObserver_low_range : Stmt := inClass (top 38) 1
abbrev s_ThresholdObserver_high_range : Stmt := inClass (top 38) 2
abbrev s_ThresholdObserver_seen_ticks : Stmt := inClass (top 38) 3
abbrev s_ThresholdObserver_records : Stmt := inClass (top 38) 4
theorem sc_first_invalid : FnScope ["values", "least", "greatest", "most", "index", "value"] ["values", "least", "greatest", "most"] (defScope s_first_invalid) := ⟨rfl, rfl, rfl, by decide +kernel, rfl, by decide +kernel, by decide +kernel⟩
theorem sc_Drift_init : FnScope ["self", "changes", "gain", "ticks"] ["self", "changes", "gain"] (defScope s_Drift_init) := ⟨rfl, rfl, rfl, by decide +kernel, rfl, by decide +kernel, by decide +kernel⟩
theorem sc_Drift_sum_to : FnScope ["self", "tick", "rounds", "rest"] ["self", "tick"] (defScope s_Drift_sum_to) := ⟨rfl, rfl, rfl, by decide +kernel, rfl, by decide +kernel, by decide +kernel⟩
theorem sc_both_drifts : FnScope ["changes", "gain"] ["changes", "gain"] (defScope s_both_drifts) := ⟨rfl, rfl, rfl, by decide +kernel, rfl, by decide +kernel, by decide +kernel⟩
theorem sc_Stretch_init : FnScope ["self", "drifts", "on", "begin", "degrees"] ["self", "drifts", "on", "begin", "degrees"] (defScope s_Stretch_init) := ⟨rfl, rfl, rfl, by decide +kernel, rfl, by decide +kernel, by decide +kernel⟩
theorem sc_Stretch_degrees_at : FnScope ["self", "tick"] ["self", "tick"] (defScope s_Stretch_degrees_at) := ⟨rfl, rfl, rfl, by decide +kernel, rfl, by decide +kernel, by decide +kernel⟩
theorem sc_Stretch_continued : FnScope ["self", "tick"] ["self", "tick"] (defScope s_Stretch_continued) := ⟨rfl, rfl, rfl, by decide +kernel, rfl, by decide +kernel, by decide +kernel⟩
theorem sc_Stretch_switched : FnScope ["self", "tick"] ["self", "tick"] (defScope s_Stretch_switched) := ⟨rfl, rfl, rfl, by decide +kernel, rfl, by decide +kernel, by decide +kernel⟩
theorem sc_Stretch_extreme_before : FnScope ["self", "end", "sign", "ticks", "first", "last", "best", "tick"] ["self", "end", "sign"] (defScope s_Stretch_extreme_before) := ⟨rfl, rfl, rfl, by decide +kernel, rfl, by decide +kernel, by decide +kernel⟩
theorem sc_more_extreme : FnScope ["best", "found", "sign"] ["best", "found", "sign"] (defScope s_more_extreme) := ⟨rfl, rfl, rfl, by decide +kernel, rfl, by decide +kernel, by decide +kernel⟩
theorem sc_check_number : FnScope ["number", "least", "greatest"] ["number", "least", "greatest"] (defScope s_check_number) := ⟨rfl, rfl, rfl, by decide +kernel, rfl, by decide +kernel, by decide +kernel⟩
theorem sc_Weather_init : FnScope ["self", "changes", "index"] ["self", "changes"] (defScope s_Weather_init) := ⟨rfl, rfl, rfl, by decide +kernel, rfl, by decide +kernel, by decide +kernel⟩
theorem sc_check_gain : FnScope ["gain"] ["gain"] (defScope s_check_gain) := ⟨rfl, rfl, rfl, by decide +kernel, rfl, by decide +kernel, by decide +kernel⟩
theorem sc_ThresholdObserver_init : FnScope ["self", "weather", "gain", "start", "on"] ["self", "weather", "gain", "start", "on"] (defScope s_ThresholdObserver_init) := ⟨rfl, rfl, rfl, by decide +kernel, rfl, by decide +kernel, by decide +kernel⟩
theorem sc_ThresholdObserver_see_switching : FnScope ["self", "tick", "lows", "highs", "degrees"] ["self", "tick"] (defScope s_ThresholdObserver_see_switching) := ⟨rfl, rfl, rfl, by decide +kernel, rfl, by decide +kernel, by decide +kernel⟩
theorem sc_ThresholdObserver_see_rest : FnScope ["self", "tick", "lows", "highs"] ["self", "tick"] (defScope s_ThresholdObserver_see_rest) := ⟨rfl, rfl, rfl, by decide +kernel, rfl, by decide +kernel, by decide +kernel⟩
theorem sc_ThresholdObserver_ranges_after_rest : FnScope ["self", "end", "lows", "highs", "extreme"] ["self", "end"] (defScope s_ThresholdObserver_ranges_after_rest) := ⟨rfl, rfl, rfl, by decide +kernel, rfl, by decide +kernel, by decide +kernel⟩
theorem sc_ThresholdObserver_accept : FnScope ["self", "lows", "highs", "stretch", "observation"] ["self", "lows", "highs", "stretch", "observation"] (defScope s_ThresholdObserver_accept) := ⟨rfl, rfl, rfl, by decide +kernel, rfl, by decide +kernel, by decide +kernel⟩
theorem sc_check_ranges : FnScope ["lows", "highs"] ["lows", "highs"] (defScope s_check_ranges) := ⟨rfl, rfl, rfl, by decide +kernel, rfl, by decide +kernel, by decide +kernel⟩
theorem sc__law_mix : FnScope ["_law_script", "_law_seed", "_law_mixed", "_law_cell"] ["_law_script", "_law_seed"] (defScope s__law_mix) := ⟨rfl, rfl, rfl, by decide +kernel, rfl, by decide +kernel, by decide +kernel⟩
theorem sc__law_next : FnScope ["_law_h", "_law_limit", "_law_cell"] ["_law_h", "_law_limit"] (defScope s__law_next) := ⟨rfl, rfl, rfl, by decide +kernel, rfl, by decide +kernel, by decide +kernel⟩
theorem sc__law_alike : FnScope ["_law_found", "_law_due", "_law_k"] ["_law_found", "_law_due"] (defScope s__law_alike) := ⟨rfl, rfl, rfl, by decide +kernel, rfl, by decide +kernel, by decide +kernel⟩
theorem sc__law_error : FnScope ["_law_call", "e", "_law_kinds", "_law_name"] ["_law_call"] (defScope s__law_error) := ⟨rfl, rfl, rfl, by decide +kernel, rfl, by decide +kernel, by decide +kernel⟩
theorem sc__law_changes : FnScope ["_law_h", "_law_most", "_law_wide", "_law_found", "_law_low", "_law_k"] ["_law_h", "_law_most"] (defScope s__law_changes) := ⟨rfl, rfl, rfl, by decide +kernel, rfl, by decide +kernel, by decide +kernel⟩
theorem sc__law_weather : FnScope ["_law_changes_here", "_law_a"] ["_law_changes_here"] (defScope s__law_weather) := ⟨rfl, rfl, rfl, by decide +kernel, rfl, by decide +kernel, by decide +kernel⟩
theorem sc__law_setting : FnScope ["_law_h", "_law_wide", "_law_low", "_law_high", "_law_start"] ["_law_h"] (defScope s__law_setting) := ⟨rfl, rfl, rfl, by decide +kernel, rfl, by decide +kernel, by decide +kernel⟩
theorem sc__law_told : FnScope ["_law_changes_here", "_law_setting_here", "_law_count", "_law_gain", "_law_low", "_law_high", "_law_degrees", "_law_heating", "_law_found", "_law_states", "_law_tick", "_law_change"] ["_law_changes_here", "_law_setting_here", "_law_count"] (defScope s__law_told) := ⟨rfl, rfl, rfl, by decide +kernel, rfl, by decide +kernel, by decide +kernel⟩
theorem sc__law_agrees : FnScope ["_law_changes_here", "_law_setting_here", "_law_told_here", "_law_last", "_law_states", "_law_tick"] ["_law_changes_here", "_law_setting_here", "_law_told_here", "_law_last"] (defScope s__law_agrees) := ⟨rfl, rfl, rfl, by decide +kernel, rfl, by decide +kernel, by decide +kernel⟩
theorem sc__law_ranges : FnScope ["_law_degrees", "_law_states", "_law_seen", "_law_low", "_law_low_end", "_law_high", "_law_high_end", "_law_tick"] ["_law_degrees", "_law_states", "_law_seen"] (defScope s__law_ranges) := ⟨rfl, rfl, rfl, by decide +kernel, rfl, by decide +kernel, by decide +kernel⟩
theorem sc__law_ends_right : FnScope ["_law_changes_here", "_law_setting_here", "_law_told_here", "_law_last", "_law_lows", "_law_highs", "_law_gain", "_law_low", "_law_high", "_law_start", "_law_heating", "_law_bound", "_law_good"] ["_law_changes_here", "_law_setting_here", "_law_told_here", "_law_last", "_law_lows", "_law_highs"] (defScope s__law_ends_right) := ⟨rfl, rfl, rfl, by decide +kernel, rfl, by decide +kernel, by decide +kernel⟩
theorem sc_law : FnScope ["_law_script", "_law_h", "_law_changes_here", "_law_setting_here", "_law_gain", "_law_low", "_law_high", "_law_start", "_law_heating", "_law_observer", "_law_degrees", "_law_states", "_law_told_here", "_law_records", "_law_seen", "_law_moves", "_law_tick", "_law_time", "_law_ahead", "_law_last", "_law_results", "_law_entry", "_law_calls", "_law_lows", "_law_highs", "_law_kept", "_law_error_here"] ["_law_script"] (defScope s_law) := ⟨rfl, rfl, rfl, by decide +kernel, rfl, by decide +kernel, by decide +kernel⟩
theorem sc_Weather_changes : FnScope ["self"] ["self"] (defScope s_Weather_changes) := ⟨rfl, rfl, rfl, by decide +kernel, rfl, by decide +kernel, by decide +kernel⟩
theorem sc_ThresholdObserver_low_range : FnScope ["self"] ["self"] (defScope s_ThresholdObserver_low_range) := ⟨rfl, rfl, rfl, by decide +kernel, rfl, by decide +kernel, by decide +kernel⟩
theorem sc_ThresholdObserver_high_range : FnScope ["self"] ["self"] (defScope s_ThresholdObserver_high_range) := ⟨rfl, rfl, rfl, by decide +kernel, rfl, by decide +kernel, by decide +kernel⟩
theorem sc_ThresholdObserver_seen_ticks : FnScope ["self"] ["self"] (defScope s_ThresholdObserver_seen_ticks) := ⟨rfl, rfl, rfl, by decide +kernel, rfl, by decide +kernel, by decide +kernel⟩
theorem sc_ThresholdObserver_records : FnScope ["self"] ["self"] (defScope s_ThresholdObserver_records) := ⟨rfl, rfl, rfl, by decide +kernel, rfl, by decide +kernel, by decide +kernel⟩
/-- where things stand -/
structure Ad where
  c_Drift : Addr
  c_Stretch : Addr
  c_Weather : Addr
  c_ThresholdObserver : Addr
  c_Heater : Addr
  c_Timeline : Addr
  c_Course : Addr
  c_HeatingSum : Addr
  c_Room : Addr
  f_first_invalid : Addr
  d_first_invalid : FuncData
  f_Drift_init : Addr
  d_Drift_init : FuncData
  f_Drift_sum_to : Addr
  d_Drift_sum_to : FuncData
  f_both_drifts : Addr
  d_both_drifts : FuncData
  f_Stretch_init : Addr
  d_Stretch_init : FuncData
  f_Stretch_degrees_at : Addr
  d_Stretch_degrees_at : FuncData
  f_Stretch_continued : Addr
  d_Stretch_continued : FuncData
  f_Stretch_switched : Addr
  d_Stretch_switched : FuncData
  f_Stretch_extreme_before : Addr
  d_Stretch_extreme_before : FuncData
  f_more_extreme : Addr
  d_more_extreme : FuncData
  f_check_number : Addr
  d_check_number : FuncData
  f_Weather_init : Addr
  d_Weather_init : FuncData
  f_check_gain : Addr
  d_check_gain : FuncData
  f_ThresholdObserver_init : Addr
  d_ThresholdObserver_init : FuncData
  f_ThresholdObserver_see_switching : Addr
  d_ThresholdObserver_see_switching : FuncData
  f_ThresholdObserver_see_rest : Addr
  d_ThresholdObserver_see_rest : FuncData
  f_ThresholdObserver_ranges_after_rest : Addr
  d_ThresholdObserver_ranges_after_rest : FuncData
  f_ThresholdObserver_accept : Addr
  d_ThresholdObserver_accept : FuncData
  f_check_ranges : Addr
  d_check_ranges : FuncData
  f__law_mix : Addr
  d__law_mix : FuncData
  f__law_next : Addr
  d__law_next : FuncData
  f__law_alike : Addr
  d__law_alike : FuncData
  f__law_error : Addr
  d__law_error : FuncData
  f__law_changes : Addr
  d__law_changes : FuncData
  f__law_weather : Addr
  d__law_weather : FuncData
  f__law_setting : Addr
  d__law_setting : FuncData
  f__law_told : Addr
  d__law_told : FuncData
  f__law_agrees : Addr
  d__law_agrees : FuncData
  f__law_ranges : Addr
  d__law_ranges : FuncData
  f__law_ends_right : Addr
  d__law_ends_right : FuncData
  f_law : Addr
  d_law : FuncData
  f_Weather_changes : Addr
  d_Weather_changes : FuncData
  f_ThresholdObserver_low_range : Addr
  d_ThresholdObserver_low_range : FuncData
  f_ThresholdObserver_high_range : Addr
  d_ThresholdObserver_high_range : FuncData
  f_ThresholdObserver_seen_ticks : Addr
  d_ThresholdObserver_seen_ticks : FuncData
  f_ThresholdObserver_records : Addr
  d_ThresholdObserver_records : FuncData
  p_Weather_changes : Addr
  p_ThresholdObserver_low_range : Addr
  p_ThresholdObserver_high_range : Addr
  p_ThresholdObserver_seen_ticks : Addr
  p_ThresholdObserver_records : Addr
/-- what the written part says -/
structure Txt (K : PySem.W.Frag) (mg : Str → Option Value) (a : Ad) : Prop where
  cl_Drift : Cls K a.c_Drift
  mg_Drift : mg "Drift" = some (.ref a.c_Drift)
  na_Drift_round_ticks : NoAttr K a.c_Drift "round_ticks"
  na_Drift_round_sum : NoAttr K a.c_Drift "round_sum"
  na_Drift__sums : NoAttr K a.c_Drift "_sums"
  cl_Stretch : Cls K a.c_Stretch
  mg_Stretch : mg "Stretch" = some (.ref a.c_Stretch)
  na_Stretch_on : NoAttr K a.c_Stretch "on"
  na_Stretch_begin : NoAttr K a.c_Stretch "begin"
  na_Stretch__drifts : NoAttr K a.c_Stretch "_drifts"
  na_Stretch__drift : NoAttr K a.c_Stretch "_drift"
  na_Stretch__base : NoAttr K a.c_Stretch "_base"
  cl_Weather : Cls K a.c_Weather
  mg_Weather : mg "Weather" = some (.ref a.c_Weather)
  na_Weather__changes : NoAttr K a.c_Weather "_changes"
  cl_ThresholdObserver : Cls K a.c_ThresholdObserver
  mg_ThresholdObserver : mg "ThresholdObserver" = some (.ref a.c_ThresholdObserver)
  na_ThresholdObserver__unseen : NoAttr K a.c_ThresholdObserver "_unseen"
  na_ThresholdObserver__lows : NoAttr K a.c_ThresholdObserver "_lows"
  na_ThresholdObserver__highs : NoAttr K a.c_ThresholdObserver "_highs"
  na_ThresholdObserver__accepted : NoAttr K a.c_ThresholdObserver "_accepted"
  F_first_invalid : Fun K "first_invalid" "first_invalid" s_first_invalid a.f_first_invalid a.d_first_invalid
  mg_first_invalid : mg "first_invalid" = some (.ref a.f_first_invalid)
  F_Drift_init : Fun K "__init__" "Drift.__init__" s_Drift_init a.f_Drift_init a.d_Drift_init
  mk_Drift : Mk K a.c_Drift a.f_Drift_init
  F_Drift_sum_to : Fun K "sum_to" "Drift.sum_to" s_Drift_sum_to a.f_Drift_sum_to a.d_Drift_sum_to
  me_Drift_sum_to : Meth K a.c_Drift "sum_to" a.f_Drift_sum_to
  F_both_drifts : Fun K "both_drifts" "both_drifts" s_both_drifts a.f_both_drifts a.d_both_drifts
  mg_both_drifts : mg "both_drifts" = some (.ref a.f_both_drifts)
  F_Stretch_init : Fun K "__init__" "Stretch.__init__" s_Stretch_init a.f_Stretch_init a.d_Stretch_init
  mk_Stretch : Mk K a.c_Stretch a.f_Stretch_init
  F_Stretch_degrees_at : Fun K "degrees_at" "Stretch.degrees_at" s_Stretch_degrees_at a.f_Stretch_degrees_at a.d_Stretch_degrees_at
  me_Stretch_degrees_at : Meth K a.c_Stretch "degrees_at" a.f_Stretch_degrees_at
  F_Stretch_continued : Fun K "continued" "Stretch.continued" s_Stretch_continued a.f_Stretch_continued a.d_Stretch_continued
  me_Stretch_continued : Meth K a.c_Stretch "continued" a.f_Stretch_continued
  F_Stretch_switched : Fun K "switched" "Stretch.switched" s_Stretch_switched a.f_Stretch_switched a.d_Stretch_switched
  me_Stretch_switched : Meth K a.c_Stretch "switched" a.f_Stretch_switched
  F_Stretch_extreme_before : Fun K "extreme_before" "Stretch.extreme_before" s_Stretch_extreme_before a.f_Stretch_extreme_before a.d_Stretch_extreme_before
  me_Stretch_extreme_before : Meth K a.c_Stretch "extreme_before" a.f_Stretch_extreme_before
  F_more_extreme : Fun K "more_extreme" "more_extreme" s_more_extreme a.f_more_extreme a.d_more_extreme
  mg_more_extreme : mg "more_extreme" = some (.ref a.f_more_extreme)
  F_check_number : Fun K "check_number" "check_number" s_check_number a.f_check_number a.d_check_number
  mg_check_number : mg "check_number" = some (.ref a.f_check_number)
  F_Weather_init : Fun K "__init__" "Weather.__init__" s_Weather_init a.f_Weather_init a.d_Weather_init
  mk_Weather : Mk K a.c_Weather a.f_Weather_init
  F_check_gain : Fun K "check_gain" "check_gain" s_check_gain a.f_check_gain a.d_check_gain
  mg_check_gain : mg "check_gain" = some (.ref a.f_check_gain)
  F_ThresholdObserver_init : FunD K "__init__" "ThresholdObserver.__init__" (defArgs s_ThresholdObserver_init) (defBody s_ThresholdObserver_init) (defScope s_ThresholdObserver_init) [] [("on", .bl false)] a.f_ThresholdObserver_init a.d_ThresholdObserver_init
  mk_ThresholdObserver : Mk K a.c_ThresholdObserver a.f_ThresholdObserver_init
  F_ThresholdObserver_see_switching : Fun K "see_switching" "ThresholdObserver.see_switching" s_ThresholdObserver_see_switching a.f_ThresholdObserver_see_switching a.d_ThresholdObserver_see_switching
  me_ThresholdObserver_see_switching : Meth K a.c_ThresholdObserver "see_switching" a.f_ThresholdObserver_see_switching
  F_ThresholdObserver_see_rest : Fun K "see_rest" "ThresholdObserver.see_rest" s_ThresholdObserver_see_rest a.f_ThresholdObserver_see_rest a.d_ThresholdObserver_see_rest
  me_ThresholdObserver_see_rest : Meth K a.c_ThresholdObserver "see_rest" a.f_ThresholdObserver_see_rest
  F_ThresholdObserver_ranges_after_rest : Fun K "_ranges_after_rest" "ThresholdObserver._ranges_after_rest" s_ThresholdObserver_ranges_after_rest a.f_ThresholdObserver_ranges_after_rest a.d_ThresholdObserver_ranges_after_rest
  me_ThresholdObserver_ranges_after_rest : Meth K a.c_ThresholdObserver "_ranges_after_rest" a.f_ThresholdObserver_ranges_after_rest
  F_ThresholdObserver_accept : Fun K "_accept" "ThresholdObserver._accept" s_ThresholdObserver_accept a.f_ThresholdObserver_accept a.d_ThresholdObserver_accept
  me_ThresholdObserver_accept : Meth K a.c_ThresholdObserver "_accept" a.f_ThresholdObserver_accept
  F_check_ranges : Fun K "check_ranges" "check_ranges" s_check_ranges a.f_check_ranges a.d_check_ranges
  mg_check_ranges : mg "check_ranges" = some (.ref a.f_check_ranges)
  F__law_mix : Fun K "_law_mix" "_law_mix" s__law_mix a.f__law_mix a.d__law_mix
  mg__law_mix : mg "_law_mix" = some (.ref a.f__law_mix)
  F__law_next : Fun K "_law_next" "_law_next" s__law_next a.f__law_next a.d__law_next
  mg__law_next : mg "_law_next" = some (.ref a.f__law_next)
  F__law_alike : Fun K "_law_alike" "_law_alike" s__law_alike a.f__law_alike a.d__law_alike
  mg__law_alike : mg "_law_alike" = some (.ref a.f__law_alike)
  F__law_error : Fun K "_law_error" "_law_error" s__law_error a.f__law_error a.d__law_error
  mg__law_error : mg "_law_error" = some (.ref a.f__law_error)
  F__law_changes : Fun K "_law_changes" "_law_changes" s__law_changes a.f__law_changes a.d__law_changes
  mg__law_changes : mg "_law_changes" = some (.ref a.f__law_changes)
  F__law_weather : Fun K "_law_weather" "_law_weather" s__law_weather a.f__law_weather a.d__law_weather
  mg__law_weather : mg "_law_weather" = some (.ref a.f__law_weather)
  F__law_setting : Fun K "_law_setting" "_law_setting" s__law_setting a.f__law_setting a.d__law_setting
  mg__law_setting : mg "_law_setting" = some (.ref a.f__law_setting)
  F__law_told : Fun K "_law_told" "_law_told" s__law_told a.f__law_told a.d__law_told
  mg__law_told : mg "_law_told" = some (.ref a.f__law_told)
  F__law_agrees : Fun K "_law_agrees" "_law_agrees" s__law_agrees a.f__law_agrees a.d__law_agrees
  mg__law_agrees : mg "_law_agrees" = some (.ref a.f__law_agrees)
  F__law_ranges : Fun K "_law_ranges" "_law_ranges" s__law_ranges a.f__law_ranges a.d__law_ranges
  mg__law_ranges : mg "_law_ranges" = some (.ref a.f__law_ranges)
  F__law_ends_right : Fun K "_law_ends_right" "_law_ends_right" s__law_ends_right a.f__law_ends_right a.d__law_ends_right
  mg__law_ends_right : mg "_law_ends_right" = some (.ref a.f__law_ends_right)
  F_law : Fun K "law" "law" s_law a.f_law a.d_law
  mg_law : mg "law" = some (.ref a.f_law)
  F_Weather_changes : Fun K "changes" "Weather.changes" s_Weather_changes a.f_Weather_changes a.d_Weather_changes
  pr_Weather_changes : PropOf K a.c_Weather "changes" a.p_Weather_changes a.f_Weather_changes
  F_ThresholdObserver_low_range : Fun K "low_range" "ThresholdObserver.low_range" s_ThresholdObserver_low_range a.f_ThresholdObserver_low_range a.d_ThresholdObserver_low_range
  pr_ThresholdObserver_low_range : PropOf K a.c_ThresholdObserver "low_range" a.p_ThresholdObserver_low_range a.f_ThresholdObserver_low_range
  F_ThresholdObserver_high_range : Fun K "high_range" "ThresholdObserver.high_range" s_ThresholdObserver_high_range a.f_ThresholdObserver_high_range a.d_ThresholdObserver_high_range
  pr_ThresholdObserver_high_range : PropOf K a.c_ThresholdObserver "high_range" a.p_ThresholdObserver_high_range a.f_ThresholdObserver_high_range
  F_ThresholdObserver_seen_ticks : Fun K "seen_ticks" "ThresholdObserver.seen_ticks" s_ThresholdObserver_seen_ticks a.f_ThresholdObserver_seen_ticks a.d_ThresholdObserver_seen_ticks
  pr_ThresholdObserver_seen_ticks : PropOf K a.c_ThresholdObserver "seen_ticks" a.p_ThresholdObserver_seen_ticks a.f_ThresholdObserver_seen_ticks
  F_ThresholdObserver_records : Fun K "records" "ThresholdObserver.records" s_ThresholdObserver_records a.f_ThresholdObserver_records a.d_ThresholdObserver_records
  pr_ThresholdObserver_records : PropOf K a.c_ThresholdObserver "records" a.p_ThresholdObserver_records a.f_ThresholdObserver_records
  mg_MOST_TICKS : ∃ t, mg "MOST_TICKS" = some (.int 1000000000000000000 t)
  mg_MOST_GAIN : ∃ t, mg "MOST_GAIN" = some (.int 200 t)
  mg_MOST_DEGREES : ∃ t, mg "MOST_DEGREES" = some (.int 1000000000000 t)
  z_abs : mg "abs" = none
  z_bool : mg "bool" = none
  z_dict : mg "dict" = none
  z_divmod : mg "divmod" = none
  z_enumerate : mg "enumerate" = none
  z_int : mg "int" = none
  z_isinstance : mg "isinstance" = none
  z_len : mg "len" = none
  z_list : mg "list" = none
  z_max : mg "max" = none
  z_min : mg "min" = none
  z_range : mg "range" = none
  z_sorted : mg "sorted" = none
  z_str : mg "str" = none
  z_sum : mg "sum" = none
  z_tuple : mg "tuple" = none
  cv_Weather_MAX_CHANGE : ∃ t, Con K a.c_Weather "MAX_CHANGE" (.int 100) (.int 100 t)
  cv_Weather_MAX_TICKS : ∃ t, Con K a.c_Weather "MAX_TICKS" (.int 24) (.int 24 t)
section
variable {K : PySem.W.Frag} {mg : Str → Option Value} {a : Ad}
theorem b_first_invalid (T : Txt K mg a) : Binds K a.d_first_invalid ["values", "least", "greatest", "most"] [] := T.F_first_invalid.binds (ps := ["values", "least", "greatest", "most"]) fun _ _ _ _ _ _ us hl => match us, hl with | [_, _, _, _], _ => rfl
theorem b_Drift_init (T : Txt K mg a) : Binds K a.d_Drift_init ["self", "changes", "gain"] [] := T.F_Drift_init.binds (ps := ["self", "changes", "gain"]) fun _ _ _ _ _ _ us hl => match us, hl with | [_, _, _], _ => rfl
theorem b_Drift_sum_to (T : Txt K mg a) : Binds K a.d_Drift_sum_to ["self", "tick"] [] := T.F_Drift_sum_to.binds (ps := ["self", "tick"]) fun _ _ _ _ _ _ us hl => match us, hl with | [_, _], _ => rfl
theorem b_both_drifts (T : Txt K mg a) : Binds K a.d_both_drifts ["changes", "gain"] [] := T.F_both_drifts.binds (ps := ["changes", "gain"]) fun _ _ _ _ _ _ us hl => match us, hl with | [_, _], _ => rfl
theorem b_Stretch_init (T : Txt K mg a) : Binds K a.d_Stretch_init ["self", "drifts", "on", "begin", "degrees"] [] := T.F_Stretch_init.binds (ps := ["self", "drifts", "on", "begin", "degrees"]) fun _ _ _ _ _ _ us hl => match us, hl with | [_, _, _, _, _], _ => rfl
theorem b_Stretch_degrees_at (T : Txt K mg a) : Binds K a.d_Stretch_degrees_at ["self", "tick"] [] := T.F_Stretch_degrees_at.binds (ps := ["self", "tick"]) fun _ _ _ _ _ _ us hl => match us, hl with | [_, _], _ => rfl
theorem b_Stretch_continued (T : Txt K mg a) : Binds K a.d_Stretch_continued ["self", "tick"] [] := T.F_Stretch_continued.binds (ps := ["self", "tick"]) fun _ _ _ _ _ _ us hl => match us, hl with | [_, _], _ => rfl
theorem b_Stretch_switched (T : Txt K mg a) : Binds K a.d_Stretch_switched ["self", "tick"] [] := T.F_Stretch_switched.binds (ps := ["self", "tick"]) fun _ _ _ _ _ _ us hl => match us, hl with | [_, _], _ => rfl
theorem b_Stretch_extreme_before (T : Txt K mg a) : Binds K a.d_Stretch_extreme_before ["self", "end", "sign"] [] := T.F_Stretch_extreme_before.binds (ps := ["self", "end", "sign"]) fun _ _ _ _ _ _ us hl => match us, hl with | [_, _, _], _ => rfl
theorem b_more_extreme (T : Txt K mg a) : Binds K a.d_more_extreme ["best", "found", "sign"] [] := T.F_more_extreme.binds (ps := ["best", "found", "sign"]) fun _ _ _ _ _ _ us hl => match us, hl with | [_, _, _], _ => rfl
theorem b_check_number (T : Txt K mg a) : Binds K a.d_check_number ["number", "least", "greatest"] [] := T.F_check_number.binds (ps := ["number", "least", "greatest"]) fun _ _ _ _ _ _ us hl => match us, hl with | [_, _, _], _ => rfl
theorem b_check_gain (T : Txt K mg a) : Binds K a.d_check_gain ["gain"] [] := T.F_check_gain.binds (ps := ["gain"]) fun _ _ _ _ _ _ us hl => match us, hl with | [_], _ => rfl
theorem b_ThresholdObserver_see_switching (T : Txt K mg a) : Binds K a.d_ThresholdObserver_see_switching ["self", "tick"] [] := T.F_ThresholdObserver_see_switching.binds (ps := ["self", "tick"]) fun _ _ _ _ _ _ us hl => match us, hl with | [_, _], _ => rfl
theorem b_ThresholdObserver_see_rest (T : Txt K mg a) : Binds K a.d_ThresholdObserver_see_rest ["self", "tick"] [] := T.F_ThresholdObserver_see_rest.binds (ps := ["self", "tick"]) fun _ _ _ _ _ _ us hl => match us, hl with | [_, _], _ => rfl
theorem b_ThresholdObserver_ranges_after_rest (T : Txt K mg a) : Binds K a.d_ThresholdObserver_ranges_after_rest ["self", "end"] [] := T.F_ThresholdObserver_ranges_after_rest.binds (ps := ["self", "end"]) fun _ _ _ _ _ _ us hl => match us, hl with | [_, _], _ => rfl
theorem b_ThresholdObserver_accept (T : Txt K mg a) : Binds K a.d_ThresholdObserver_accept ["self", "lows", "highs", "stretch", "observation"] [] := T.F_ThresholdObserver_accept.binds (ps := ["self", "lows", "highs", "stretch", "observation"]) fun _ _ _ _ _ _ us hl => match us, hl with | [_, _, _, _, _], _ => rfl
theorem b_check_ranges (T : Txt K mg a) : Binds K a.d_check_ranges ["lows", "highs"] [] := T.F_check_ranges.binds (ps := ["lows", "highs"]) fun _ _ _ _ _ _ us hl => match us, hl with | [_, _], _ => rfl
theorem b__law_mix (T : Txt K mg a) : Binds K a.d__law_mix ["_law_script", "_law_seed"] [] := T.F__law_mix.binds (ps := ["_law_script", "_law_seed"]) fun _ _ _ _ _ _ us hl => match us, hl with | [_, _], _ => rfl
theorem b__law_next (T : Txt K mg a) : Binds K a.d__law_next ["_law_h", "_law_limit"] [] := T.F__law_next.binds (ps := ["_law_h", "_law_limit"]) fun _ _ _ _ _ _ us hl => match us, hl with | [_, _], _ => rfl
theorem b__law_alike (T : Txt K mg a) : Binds K a.d__law_alike ["_law_found", "_law_due"] [] := T.F__law_alike.binds (ps := ["_law_found", "_law_due"]) fun _ _ _ _ _ _ us hl => match us, hl with | [_, _], _ => rfl
theorem b__law_error (T : Txt K mg a) : Binds K a.d__law_error ["_law_call"] [] := T.F__law_error.binds (ps := ["_law_call"]) fun _ _ _ _ _ _ us hl => match us, hl with | [_], _ => rfl
theorem b__law_changes (T : Txt K mg a) : Binds K a.d__law_changes ["_law_h", "_law_most"] [] := T.F__law_changes.binds (ps := ["_law_h", "_law_most"]) fun _ _ _ _ _ _ us hl => match us, hl with | [_, _], _ => rfl
theorem b__law_weather (T : Txt K mg a) : Binds K a.d__law_weather ["_law_changes_here"] [] := T.F__law_weather.binds (ps := ["_law_changes_here"]) fun _ _ _ _ _ _ us hl => match us, hl with | [_], _ => rfl
theorem b__law_setting (T : Txt K mg a) : Binds K a.d__law_setting ["_law_h"] [] := T.F__law_setting.binds (ps := ["_law_h"]) fun _ _ _ _ _ _ us hl => match us, hl with | [_], _ => rfl
theorem b__law_told (T : Txt K mg a) : Binds K a.d__law_told ["_law_changes_here", "_law_setting_here", "_law_count"] [] := T.F__law_told.binds (ps := ["_law_changes_here", "_law_setting_here", "_law_count"]) fun _ _ _ _ _ _ us hl => match us, hl with | [_, _, _], _ => rfl
theorem b__law_agrees (T : Txt K mg a) : Binds K a.d__law_agrees ["_law_changes_here", "_law_setting_here", "_law_told_here", "_law_last"] [] := T.F__law_agrees.binds (ps := ["_law_changes_here", "_law_setting_here", "_law_told_here", "_law_last"]) fun _ _ _ _ _ _ us hl => match us, hl with | [_, _, _, _], _ => rfl
theorem b__law_ranges (T : Txt K mg a) : Binds K a.d__law_ranges ["_law_degrees", "_law_states", "_law_seen"] [] := T.F__law_ranges.binds (ps := ["_law_degrees", "_law_states", "_law_seen"]) fun _ _ _ _ _ _ us hl => match us, hl with | [_, _, _], _ => rfl
theorem b__law_ends_right (T : Txt K mg a) : Binds K a.d__law_ends_right ["_law_changes_here", "_law_setting_here", "_law_told_here", "_law_last", "_law_lows", "_law_highs"] [] := T.F__law_ends_right.binds (ps := ["_law_changes_here", "_law_setting_here", "_law_told_here", "_law_last", "_law_lows", "_law_highs"]) fun _ _ _ _ _ _ us hl => match us, hl with | [_, _, _, _, _, _], _ => rfl
theorem b_law (T : Txt K mg a) : Binds K a.d_law ["_law_script"] [] := T.F_law.binds (ps := ["_law_script"]) fun _ _ _ _ _ _ us hl => match us, hl with | [_], _ => rfl
theorem b_Weather_changes (T : Txt K mg a) : Binds K a.d_Weather_changes ["self"] [] := T.F_Weather_changes.binds (ps := ["self"]) fun _ _ _ _ _ _ us hl => match us, hl with | [_], _ => rfl
theorem b_ThresholdObserver_low_range (T : Txt K mg a) : Binds K a.d_ThresholdObserver_low_range ["self"] [] := T.F_ThresholdObserver_low_range.binds (ps := ["self"]) fun _ _ _ _ _ _ us hl => match us, hl with | [_], _ => rfl
theorem b_ThresholdObserver_high_range (T : Txt K mg a) : Binds K a.d_ThresholdObserver_high_range ["self"] [] := T.F_ThresholdObserver_high_range.binds (ps := ["self"]) fun _ _ _ _ _ _ us hl => match us, hl with | [_], _ => rfl
theorem b_ThresholdObserver_seen_ticks (T : Txt K mg a) : Binds K a.d_ThresholdObserver_seen_ticks ["self"] [] := T.F_ThresholdObserver_seen_ticks.binds (ps := ["self"]) fun _ _ _ _ _ _ us hl => match us, hl with | [_], _ => rfl
theorem b_ThresholdObserver_records (T : Txt K mg a) : Binds K a.d_ThresholdObserver_records ["self"] [] := T.F_ThresholdObserver_records.binds (ps := ["self"]) fun _ _ _ _ _ _ us hl => match us, hl with | [_], _ => rfl
end
end W6

/-! a head's facts, told by Bools and by what stands at the defs' places -/
namespace Hq
open PySem PySem.Spec PyProof.Rows L2
/-- the def behind a property -/
def gtA (K : PySem.W.Frag) (p : Addr) : Addr := match PySem.W.recIn K p "property" with
  | some (Value.ref f :: _rest) => f
  | _ => 0
def gtR (K : PySem.W.Frag) (p : Addr) : List Value := match PySem.W.recIn K p "property" with
  | some (Value.ref _f :: rest) => rest
  | _ => []
def gtB (K : PySem.W.Frag) (p : Addr) : Bool := match PySem.W.recIn K p "property" with
  | some (Value.ref _f :: _rest) => true
  | _ => false
theorem gtB_ok {K : PySem.W.Frag} {p : Addr} (h : gtB K p = true) : PySem.W.recIn K p "property" = some (.ref (gtA K p) :: gtR K p) := by
  unfold gtB at h
  unfold gtA gtR
  split at h
  · rename_i e; rw [e]
  · cases h
/-- the dict of a def's keyword defaults -/
def kvA : Value → Addr
  | .ref b => b
  | _ => 0
def kvB : Value → Bool
  | .ref _ => true
  | _ => false
def kwA (K : PySem.W.Frag) (f : Addr) : Addr := match K.lookup f with
  | some { data := Data.func d, .. } => kvA d.kwdefaults
  | _ => 0
def kwB (K : PySem.W.Frag) (f : Addr) : Bool := match K.lookup f with
  | some { data := Data.func d, .. } => kvB d.kwdefaults
  | _ => false
/-- what a def is made of -/
abbrev Mv : Type := Option (Str × Str × Arguments × FuncBody × Scope × Addr × List (Str × Addr) × Value × Addr)
def mo (K : PySem.W.Frag) (f : Addr) : Mv := match K.lookup f with
  | some { data := Data.func d, .. } => some (d.name, d.qualname, d.params, d.body, d.scope, d.globals, d.closure, d.defaults, d.builtins)
  | _ => none
def mv (name qual : Str) (st : Stmt) : Mv := some (name, qual, defArgs st, .stmts (defBody st), defScope st, mainGlobals, [], .none, builtinsNs)
def coB (K : PySem.W.Frag) (f : Addr) (q : Str) : Bool := match K.lookup f with
  | some { data := Data.func d, .. } => PySem.W.codeIn K d.code q
  | _ => false
theorem mo_ok {K : PySem.W.Frag} {f : Addr} {name qual : Str} {st : Stmt} (e : mo K f = mv name qual st) (c : coB K f qual = true) :
    ∃ oc od osl kV doc pm an cdv ct, K.lookup f = some ⟨oc, od, .func (PySem.W.fnOf name qual (defArgs st) (defBody st) (defScope st) .none kV doc pm an cdv ct), osl⟩ ∧ PySem.W.codeIn K cdv qual = true := by
  unfold mo at e
  unfold coB at c
  cases q : K.lookup f with
  | none => rw [q] at c; cases c
  | some o =>
    obtain ⟨oc, od, dt, osl⟩ := o
    rw [q] at c e
    cases dt with
    | func fd =>
      obtain ⟨n1, n2, n3, n4, n5, n6, n7, n8, n9, n10, n11, n12, n13, n14, n15⟩ := fd
      have e2 : (some (n1, n2, n3, n4, n5, n6, n7, n8, n15) : Mv) = some (name, qual, defArgs st, .stmts (defBody st), defScope st, mainGlobals, [], .none, builtinsNs) := e
      simp only [Option.some.injEq, Prod.mk.injEq] at e2
      obtain ⟨h1, h2, h3, h4, h5, h6, h7, h8, h9⟩ := e2
      subst h1 h2 h3 h4 h5 h6 h7 h8 h9
      exact ⟨oc, od, osl, n9, n10, n11, n12, n13, n14, rfl, c⟩
    | _ => cases c
theorem mo_okK {K : PySem.W.Frag} {f : Addr} {name qual : Str} {st : Stmt} (e : mo K f = mv name qual st) (c : coB K f qual = true) (b : kwB K f = true) :
    ∃ oc od osl doc pm an cdv ct, K.lookup f = some ⟨oc, od, .func (PySem.W.fnOf name qual (defArgs st) (defBody st) (defScope st) .none (.ref (kwA K f)) doc pm an cdv ct), osl⟩ ∧ PySem.W.codeIn K cdv qual = true := by
  obtain ⟨oc, od, osl, kV, doc, pm, an, cdv, ct, lk, co⟩ := mo_ok e c
  have ek : kV = .ref (kwA K f) := by
    unfold kwB at b
    unfold kwA
    rw [lk] at b ⊢
    have b2 : kvB kV = true := b
    show kV = .ref (kvA kV)
    cases kV with
    | ref d => rfl
    | _ => cases b2
  rw [ek] at lk
  exact ⟨oc, od, osl, doc, pm, an, cdv, ct, lk, co⟩
/-- a written int of the module -/
def inB (K : PySem.W.Frag) (x : Str) (i : Int) : Bool := match PySem.W.nsIn K mainGlobals x with
  | some (some (Value.int j _t)) => decide (j = i)
  | _ => false
theorem inB_ok {K : PySem.W.Frag} {x : Str} {i : Int} (h : inB K x i = true) : ∃ t, PySem.W.nsIn K mainGlobals x = some (some (.int i t)) := by
  unfold inB at h
  split at h
  · rename_i j t e
    rw [e, of_decide_eq_true h]
    exact ⟨t, rfl⟩
  · cases h
/-- a class's int -/
def cvB (K : PySem.W.Frag) (C : Addr) (x : Str) (i : Int) : Bool := match PySem.W.findIn K (.ref C) x with
  | some (some (Value.int j t)) => decide (j = i) && He.eqO (PySem.W.specialIn K (.int j t) "__get__") (some none)
  | _ => false
theorem cvB_ok {K : PySem.W.Frag} {C : Addr} {x : Str} {i : Int} (h : cvB K C x i = true) : ∃ t, PySem.W.findIn K (.ref C) x = some (some (.int i t)) ∧ PySem.W.specialIn K (.int i t) "__get__" = some none := by
  unfold cvB at h
  split at h
  · rename_i j t e
    obtain ⟨h1, h2⟩ := He.ba h
    have ej := of_decide_eq_true h1
    subst ej
    exact ⟨t, e, He.eqO_ok h2⟩
  · cases h
/-! ### the Hook -/
/-- the facts; where the defs stand, and what is to stand there -/
structure Spc where
  bs : PySem.W.Frag → List Bool
  fs : List ((PySem.W.Frag → Addr) × Mv)
abbrev Av : Type := Bool × List Mv
def obs (S : Spc) (K : PySem.W.Frag) : Av := ((S.bs K).all id, S.fs.map fun q => mo K (q.1 K))
def wanted (S : Spc) : Av := (true, S.fs.map fun q => q.2)
def Says (S : Spc) (K : PySem.W.Frag) : Prop := obs S K = wanted S
/-- what an object leads to: values, code, keyword defaults, a class's names -/
def refQ (o : Obj) : List Addr := match o.data with
  | .dict entries _ => entries.toList.flatMap fun q => He.refV q.val
  | .func d => He.refV d.code ++ He.refV d.kwdefaults
  | .cls d => [d.ns]
  | .fields parts => parts.toList.flatMap He.refV
  | _ => []
def lvl (g : Addr → Option Obj) (xs : List Addr) : List Addr := xs.flatMap fun b => match g b with
  | some o => refQ o
  | none => []
def asQ (g : Addr → Option Obj) : Nat → List Addr → List Addr
  | 0, xs => xs
  | n + 1, xs => xs ++ asQ g n (lvl g xs)
def obsG (n : Nat) (S : Spc) (g : Addr → Option Obj) : Av := obs S (He.frG g (asQ g n [mainGlobals]))
def hook (n : Nat) (S : Spc) : PySem.W.Hook where
  α := Av
  obs := fun s => obsG n S s.heap.get?
  val := fun _ => wanted S
  says := fun _ h => ∃ K : PySem.W.Frag, K.In h ∧ Says S K
  of := fun _ _ e => ⟨_, He.frG_in, e⟩
  keeps := fun _ _ _ ⟨K, hK, c⟩ k => ⟨K, hK.keeps k, c⟩
theorem obsG_eq {n : Nat} {S : Spc} {g : Addr → Option Obj} {s : Shared} (h : ∀ a, g a = s.heap.get? a) : obsG n S g = (hook n S).obs s := by
  obtain rfl : g = s.heap.get? := funext h
  rfl
section
variable {S : Spc} {K : PySem.W.Frag}
theorem Says.fact (c : Says S K) (i : Nat) {b : Bool} (h : (S.bs K)[i]? = some b) : b = true := by
  have c1 : (S.bs K).all id = true := congrArg (fun z : Av => z.1) c
  exact List.all_eq_true.mp c1 b (List.mem_of_getElem? h)
theorem Says.fn (c : Says S K) (i : Nat) {f : PySem.W.Frag → Addr} {v : Mv} (h : S.fs[i]? = some (f, v)) : mo K (f K) = v := by
  have c2 : (S.fs.map fun q => mo K (q.1 K)) = S.fs.map fun q => q.2 := congrArg (fun z : Av => z.2) c
  have e2 : (S.fs.map fun q => mo K (q.1 K))[i]? = (S.fs.map fun q => q.2)[i]? := by rw [← c2]
  rw [List.getElem?_map, List.getElem?_map, h] at e2
  exact Option.some.inj e2
end
end Hq

/-! a head's facts, further: tables of code objects, defs that close over __class__, errors' classes -/
namespace Hq2
open PySem PySem.Spec PyProof.Rows L2 Hq
/-! ### a def that closes over its class -/
abbrev Mx : Type := Option (Str × Str × Arguments × FuncBody × Scope × Addr × List Str × Value × Value × Addr)
def moX (K : PySem.W.Frag) (f : Addr) : Mx := match K.lookup f with
  | some { data := Data.func d, .. } => some (d.name, d.qualname, d.params, d.body, d.scope, d.globals, d.closure.map (·.1), d.defaults, d.kwdefaults, d.builtins)
  | _ => none
def mvX (name qual : Str) (st : Stmt) : Mx := some (name, qual, defArgs st, .stmts (defBody st), defScope st, mainGlobals, ["__class__"], .none, .none, builtinsNs)
def cellB (K : PySem.W.Frag) (a C : Addr) : Bool := match K.lookup a with
  | some { data := Data.cell (some (Value.ref D)), .. } => decide (D = C)
  | _ => false
theorem cellB_ok {K : PySem.W.Frag} {a C : Addr} (h : cellB K a C = true) : ∃ (cl : Value) (cld : Option Addr) (csl : Array (Option Value)), K.lookup a = some ⟨cl, cld, .cell (some (.ref C)), csl⟩ := by
  unfold cellB at h
  split at h
  · rename_i cl cld D csl hq
    have ed := of_decide_eq_true h
    subst ed
    exact ⟨_, _, _, hq⟩
  · cases h
def fileB (K : PySem.W.Frag) (v : Value) (file : Str) : Bool := match v with
  | Value.ref c => (match K.lookup c with
    | some { data := Data.fields vs, .. } => (match vs[2]? with
      | some (Value.str fl _) => decide (fl = file)
      | _ => false)
    | _ => false)
  | _ => false
theorem fileB_ok {K : PySem.W.Frag} {v : Value} {file : Str} (h : fileB K v file = true) : ∃ cda : Addr, v = .ref cda ∧ ∃ (ccl : Value) (cdd : Option Addr) (vs : Array Value) (ccs : Array (Option Value)) (tf : Tok), K.lookup cda = some ⟨ccl, cdd, .fields vs, ccs⟩ ∧ vs[2]? = some (.str file tf) := by
  unfold fileB at h
  split at h
  · rename_i c
    split at h
    · rename_i ccl cdd vs ccs hq
      split at h
      · rename_i fl tf hv
        have ef := of_decide_eq_true h
        subst ef
        exact ⟨c, rfl, _, _, _, _, tf, hq, hv⟩
      · cases h
    · cases h
  · cases h
def ccB (K : PySem.W.Frag) (f C : Addr) : Bool := match K.lookup f with
  | some { data := Data.func d, .. } => d.closure.all fun p => cellB K p.2 C
  | _ => false
def flB (K : PySem.W.Frag) (f : Addr) (file : Str) : Bool := match K.lookup f with
  | some { data := Data.func d, .. } => fileB K d.code file
  | _ => false
theorem mx_ok {K : PySem.W.Frag} {f C : Addr} {name qual file : Str} {st : Stmt} (e : moX K f = mvX name qual st) (c : coB K f qual = true) (h1 : ccB K f C = true) (h2 : flB K f file = true) :
    ∃ (oc : Value) (od : Option Addr) (doc pm : Value) (an : Option Addr) (cda cc : Addr) (ct : Value) (osl : Array (Option Value)),
      K.lookup f = some ⟨oc, od, .func (PySem.W.ksFn name qual (defArgs st) (defBody st) (defScope st) .none .none doc pm an (.ref cda) ct cc), osl⟩ ∧ PySem.W.codeIn K (.ref cda) qual = true ∧
      (∃ (ccl : Value) (cdd : Option Addr) (vs : Array Value) (ccs : Array (Option Value)) (tf : Tok), K.lookup cda = some ⟨ccl, cdd, .fields vs, ccs⟩ ∧ vs[2]? = some (.str file tf)) ∧
      (∃ (cl : Value) (cld : Option Addr) (csl : Array (Option Value)), K.lookup cc = some ⟨cl, cld, .cell (some (.ref C)), csl⟩) := by
  unfold moX at e
  unfold coB at c
  unfold ccB at h1
  unfold flB at h2
  cases q : K.lookup f with
  | none => rw [q] at c; cases c
  | some o =>
    obtain ⟨oc, od, dt, osl⟩ := o
    rw [q] at c e h1 h2
    cases dt with
    | func fd =>
      obtain ⟨n1, n2, n3, n4, n5, n6, n7, n8, n9, n10, n11, n12, n13, n14, n15⟩ := fd
      have e2 : (some (n1, n2, n3, n4, n5, n6, n7.map (·.1), n8, n9, n15) : Mx) = (some (name, qual, defArgs st, FuncBody.stmts (defBody st), defScope st, mainGlobals, ["__class__"], Value.none, Value.none, builtinsNs) : Mx) := e
      simp only [Option.some.injEq, Prod.mk.injEq] at e2
      obtain ⟨e1, e3, e4, e5, e6, e7, e8, e9, e10, e11⟩ := e2
      subst e1 e3 e4 e5 e6 e7 e9 e10 e11
      have h1 : (n7.all fun p => cellB K p.2 C) = true := h1
      have h2 : fileB K n13 file = true := h2
      have ln : n7.length = 1 := by
        have z := congrArg List.length e8
        rw [List.length_map] at z
        exact z
      match n7, ln with
      | [(nm, cc)], _ =>
        have enm : nm = ("__class__" : Str) := (List.cons.inj e8).1
        subst enm
        obtain ⟨cda, rfl, hc⟩ := fileB_ok h2
        have h1 : (cellB K cc C && true) = true := h1
        rw [Bool.and_true] at h1
        exact ⟨oc, od, n10, n11, n12, cda, cc, n14, osl, rfl, c, hc, cellB_ok h1⟩
    | _ => cases c
/-! ### an error's class -/
def ixClsB (K : PySem.W.Frag) (C : Addr) : Bool := match K.lookup C with
  | some ⟨Value.type "type", _, Data.cls cd, sl⟩ => (match cd.mro, sl.toList with
    | Value.ref D :: bm, [_, _, _, _, some (Value.builtin n), _] => decide (D = C) && (decide (n = "ValueError.__new__") && (!cd.hasDel && (cd.hasDict && PySem.HandSPX.refsVE bm)))
    | _, _ => false)
  | _ => false
theorem ixClsB_ok {K : PySem.W.Frag} {C : Addr} (h : ixClsB K C = true) : ∃ nm q N bs bm sn sub ab col dd k0 k1 k2 k3 k5, K.lookup C = some (excClassObj nm q C N bs bm true sn sub ab col dd k0 k1 k2 k3 k5 "ValueError.__new__") ∧ PySem.HandSPX.refsVE bm = true := by
  unfold ixClsB at h
  split at h
  · rename_i dd cd sl ho
    split at h
    · rename_i D bm k0 k1 k2 k3 n k5 hm hs
      obtain ⟨a1, h⟩ := He.ba h
      obtain ⟨a2, h⟩ := He.ba h
      obtain ⟨a3, h⟩ := He.ba h
      obtain ⟨a4, a5⟩ := He.ba h
      have e1 := of_decide_eq_true a1
      have e2 := of_decide_eq_true a2
      subst e1 e2
      obtain ⟨nm, bs, mro, ns, qn, hd, sn, sub, ab, col, del⟩ := cd
      have e3 : del = false := by simpa using a3
      have e4 : hd = true := a4
      have e5 : mro = Value.ref D :: bm := hm
      subst e3 e4 e5
      have hsl : sl = #[k0, k1, k2, k3, some (.builtin "ValueError.__new__"), k5] := by
        obtain ⟨l⟩ := sl
        have hs : l = _ := hs
        rw [hs]
      subst hsl
      exact ⟨nm, qn, ns, bs, bm, sn, sub, ab, col, dd, k0, k1, k2, k3, k5, ho, a5⟩
    · cases h
  · cases h
def excB (K : PySem.W.Frag) (D : Addr) : Bool := He.eqO (PySem.W.findIn K (.ref D) "__getattribute__") (some (some (.builtin "BaseException.__getattribute__"))) && (He.eqO (PySem.W.findIn K (.ref D) "__getattr__") (some none) &&
  (decide (PySem.W.subIn K (.ref D) (.type "BaseException") = some true) && (PySem.W.hasDictIn K D && (He.eqO (PySem.W.findIn K (.ref D) "__class__") (some (some (.builtin "object.__class__"))) &&
  (He.eqO (PySem.W.specialIn K (.builtin "object.__class__") "__get__") (some (some (.builtin "getset_descriptor.__get__"))) && (decide (PySem.W.takesIn K (.builtin "object.__class__") = some true) && decide (PySem.W.mroIn K D (.type "object") = some true)))))))
theorem excB_ok {K : PySem.W.Frag} {D : Addr} (h : excB K D = true) : ExcC K D := by
  obtain ⟨h1, h⟩ := He.ba h
  obtain ⟨h2, h⟩ := He.ba h
  obtain ⟨h3, h⟩ := He.ba h
  obtain ⟨h4, h⟩ := He.ba h
  obtain ⟨h5, h⟩ := He.ba h
  obtain ⟨h6, h⟩ := He.ba h
  obtain ⟨h7, h8⟩ := He.ba h
  exact ⟨He.eqO_ok h1, He.eqO_ok h2, of_decide_eq_true h3, h4, He.eqO_ok h5, He.eqO_ok h6, of_decide_eq_true h7, of_decide_eq_true h8⟩
/-- what IxTxt asks of the class beside the def's text -/
def ixB (K : PySem.W.Frag) (C : Addr) : Bool := ixClsB K C && (He.eqO (PySem.W.findIn K (.ref C) "__setattr__") (some (some (.builtin "object.__setattr__"))) && (He.eqO (PySem.W.findIn K (.ref C) "index") (some none) &&
  (He.eqO (PySem.W.findIn K (.ref C) "__init__") (some (some (.ref (He.ma K C "__init__")))) && (decide (PySem.W.typeIn K (.ref (He.ma K C "__init__")) = some (.type "function")) && (PySem.W.keepIn K (.ref C) &&
  (decide (PySem.W.typeIn K (.ref C) = some (.type "type")) && (decide (PySem.W.mroIn K C (.ref C) = some true) && (He.eqO (PySem.W.ks_superIn K C C "__init__") (some (some (.builtin "ValueError.__init__"))) &&
  (decide (PySem.W.subIn K (.ref C) (.type "ValueError") = some true) && He.eqO (PySem.W.nsIn K cStatics "thirdparty.any") (some none))))))))))
/-! ### a class's constant, read off the class -/
def cvalB (K : PySem.W.Frag) (C : Addr) (x : Str) (i : Int) : Bool := match PySem.W.findCls K (.ref C) (.type "type") x with
  | some (.val (.int j _)) => decide (j = i)
  | _ => false
theorem cvalB_ok {K : PySem.W.Frag} {C : Addr} {x : Str} {i : Int} (h : cvalB K C x i = true) : ∃ t, ClX.CVal K C (.type "type") x (.int i) (.int i t) := by
  unfold cvalB at h
  split at h
  · rename_i j t e
    have ej := of_decide_eq_true h
    subst ej
    exact ⟨t, e, ⟨t, rfl⟩⟩
  · cases h
/-! ### the Hook -/
structure Spc where
  bs : PySem.W.Frag → List Bool
  fs : List ((PySem.W.Frag → Addr) × Mv)
  xs : List ((PySem.W.Frag → Addr) × Mx)
  cs : PySem.W.Frag → List (Addr × Addr)
abbrev Av : Type := Bool × List Mv × List Mx
def obsK (S : Spc) (K : PySem.W.Frag) : Av := ((S.bs K).all id, S.fs.map fun q => mo K (q.1 K), S.xs.map fun q => moX K (q.1 K))
def tabB (S : Spc) (g : Addr → Option Obj) (K : PySem.W.Frag) : Bool := (S.cs K).all fun p => PySem.W.codeHdIn K p.1 p.2 && (match g p.2 with
  | some o => He.emptyTab o
  | none => false)
def wanted (S : Spc) : Av := (true, S.fs.map fun q => q.2, S.xs.map fun q => q.2)
def refX (o : Obj) : List Addr := match o.data with
  | .dict entries _ => entries.toList.flatMap fun q => He.refV q.val
  | .func d => He.refV d.code ++ He.refV d.kwdefaults ++ d.closure.map (·.2)
  | .cls d => [d.ns]
  | .fields parts => parts.toList.flatMap He.refV
  | _ => []
def lvl (g : Addr → Option Obj) (xs : List Addr) : List Addr := xs.flatMap fun b => match g b with
  | some o => refX o
  | none => []
def asX (g : Addr → Option Obj) : Nat → List Addr → List Addr
  | 0, xs => xs
  | n + 1, xs => xs ++ asX g n (lvl g xs)
def frX (n : Nat) (g : Addr → Option Obj) : PySem.W.Frag := He.frT g (cStatics :: asX g n [mainGlobals])
def obsG (n : Nat) (S : Spc) (g : Addr → Option Obj) : Av × Bool := (obsK S (frX n g), tabB S g (frX n g))
/-- what is told of the written part -/
structure Says (S : Spc) (h : Heap) (K : PySem.W.Frag) : Prop where
  k : obsK S K = wanted S
  hd : ∀ p ∈ S.cs K, PySem.W.codeHdIn K p.1 p.2 = true
  out : ∀ p ∈ S.cs K, K.lookup p.2 = none
  empty : ∀ p ∈ S.cs K, h.get? p.2 = some { cls := .none, data := .fields #[] }
theorem says_of {n : Nat} {S : Spc} {h : Heap} (e : obsG n S h.get? = (wanted S, true)) : Says S h (frX n h.get?) := by
  have e1 : obsK S (frX n h.get?) = wanted S := congrArg (fun z : Av × Bool => z.1) e
  have e2 : tabB S h.get? (frX n h.get?) = true := congrArg (fun z : Av × Bool => z.2) e
  have key : ∀ p ∈ S.cs (frX n h.get?), PySem.W.codeHdIn (frX n h.get?) p.1 p.2 = true ∧ ∃ o, h.get? p.2 = some o ∧ He.emptyTab o = true := fun p hp => by
    obtain ⟨h3, h4⟩ := He.ba (List.all_eq_true.mp e2 p hp)
    refine ⟨h3, ?_⟩
    cases q : h.get? p.2 with
    | none => rw [q] at h4; cases h4
    | some o => rw [q] at h4; exact ⟨o, rfl, h4⟩
  refine ⟨e1, fun p hp => (key p hp).1, fun p hp => ?_, fun p hp => ?_⟩
  · obtain ⟨_, o, q, z⟩ := key p hp
    exact He.frT_none q z
  · obtain ⟨_, o, q, z⟩ := key p hp
    rw [q, He.emptyTab_eq z]
def hook (n : Nat) (S : Spc) : PySem.W.Hook where
  α := Av × Bool
  obs := fun s => obsG n S s.heap.get?
  val := fun _ => (wanted S, true)
  says := fun _ h => ∃ K : PySem.W.Frag, K.In h ∧ Says S h K
  of := fun _ _ e => ⟨_, He.frT_in, says_of e⟩
  keeps := fun _ _ _ ⟨K, hK, c⟩ k => ⟨K, PySem.W.Frag.In.keeps hK k, ⟨c.k, c.hd, c.out, fun p hp => k _ _ (c.empty p hp)⟩⟩
theorem obsG_eq {n : Nat} {S : Spc} {g : Addr → Option Obj} {s : Shared} (h : ∀ a, g a = s.heap.get? a) : obsG n S g = (hook n S).obs s := by
  obtain rfl : g = s.heap.get? := funext h
  rfl
section
variable {S : Spc} {K : PySem.W.Frag} {h : Heap}
theorem Says.fact (c : Says S h K) (i : Nat) {b : Bool} (e : (S.bs K)[i]? = some b) : b = true := by
  have c1 : (S.bs K).all id = true := congrArg (fun z : Av => z.1) c.k
  exact List.all_eq_true.mp c1 b (List.mem_of_getElem? e)
theorem Says.fn (c : Says S h K) (i : Nat) {f : PySem.W.Frag → Addr} {v : Mv} (e : S.fs[i]? = some (f, v)) : mo K (f K) = v := by
  have c2 : (S.fs.map fun q => mo K (q.1 K)) = S.fs.map fun q => q.2 := congrArg (fun z : Av => z.2.1) c.k
  have e2 : (S.fs.map fun q => mo K (q.1 K))[i]? = (S.fs.map fun q => q.2)[i]? := by rw [← c2]
  rw [List.getElem?_map, List.getElem?_map, e] at e2
  exact Option.some.inj e2
theorem Says.fx (c : Says S h K) (i : Nat) {f : PySem.W.Frag → Addr} {v : Mx} (e : S.xs[i]? = some (f, v)) : moX K (f K) = v := by
  have c2 : (S.xs.map fun q => moX K (q.1 K)) = S.xs.map fun q => q.2 := congrArg (fun z : Av => z.2.2) c.k
  have e2 : (S.xs.map fun q => moX K (q.1 K))[i]? = (S.xs.map fun q => q.2)[i]? := by rw [← c2]
  rw [List.getElem?_map, List.getElem?_map, e] at e2
  exact Option.some.inj e2
end
/-! ### the end: the written part is told by what the head says -/
theorem walk_tab {l : PySem.W.OpenLaw} {n k : Nat} {q : Program} {loose : List Str} {XP : (Str → Option Value) → Heap → Prop} {YP : World → Heap → Prop} {d : DefRec} {CX : World → CXT} {x : Str}
    (hn : l.most = some n) (hn2 : n ≤ sizeLine) (hdf : d.params.defaults = []) (hr : Room k callerA)
    (F : ∀ (w : World) (mg : Str → Option Value) (fa : Addr) (h : Heap), YP w h → h.Ns mainGlobals mg → mg d.name = some (.ref fa) → ∃ K : PySem.W.Frag, K.In h ∧ LamX.LawAtS l w K (CX w) k n x mg fa h)
    (hCX : ∀ (w : World) (H : Hp) (s : Shared) (e : Value) (s' : Shared), CX w [] H s (fun _ _ _ => False) e s' → False) :
    PySem.W.WalkO q loose XP YP l.row.toRowW d [] (fun f vs => PySem.call f vs) := by
  refine Att.attach_callB hn hdf fun w s₀ s₁ mg mb fa o pm cd doc a vs ns G Y ho hd hcd hmg hobj hints hlen hbits hg => ?_
  obtain ⟨K, KX, fd, cs, sp, hT, nT, C, hb, hsp, hF⟩ := F w mg fa _ Y G.T.g hmg
  exact LamX.law_callTs KX G.T.g G.T.b G.T.builtins G.T.nolimit hg hT nT C G.T.bmain hobj hints (Nat.le_trans hlen hn2) hr hF hb (fun H hH hS => hsp H a ns hlen hbits hH hS) fun H e s' => hCX w H s₁ e s'
end Hq2

/-! the kernel's run in parts: each part runs the top anew and looks at something else -/
noncomputable section
namespace Hq3
open PySem PySem.Spec PyProof.Rows PySem.W HandSHeadRun
def app (S T : Hq2.Spc) : Hq2.Spc := ⟨fun K => S.bs K ++ T.bs K, S.fs ++ T.fs, S.xs ++ T.xs, fun K => S.cs K ++ T.cs K⟩
theorem obsG_app {n : Nat} {S T : Hq2.Spc} {g : Addr → Option Obj} (h1 : Hq2.obsG n S g = (Hq2.wanted S, true)) (h2 : Hq2.obsG n T g = (Hq2.wanted T, true)) : Hq2.obsG n (app S T) g = (Hq2.wanted (app S T), true) := by
  unfold Hq2.obsG at *
  generalize Hq2.frX n g = K at *
  have a1 := congrArg (fun z : Hq2.Av × Bool => z.1.1) h1
  have a2 := congrArg (fun z : Hq2.Av × Bool => z.1.2.1) h1
  have a3 := congrArg (fun z : Hq2.Av × Bool => z.1.2.2) h1
  have a4 := congrArg (fun z : Hq2.Av × Bool => z.2) h1
  have b1 := congrArg (fun z : Hq2.Av × Bool => z.1.1) h2
  have b2 := congrArg (fun z : Hq2.Av × Bool => z.1.2.1) h2
  have b3 := congrArg (fun z : Hq2.Av × Bool => z.1.2.2) h2
  have b4 := congrArg (fun z : Hq2.Av × Bool => z.2) h2
  dsimp only [Hq2.obsK, Hq2.wanted] at a1 a2 a3 b1 b2 b3
  dsimp only at a4 b4
  have e1 : Hq2.obsK (app S T) K = Hq2.wanted (app S T) := by
    unfold Hq2.obsK Hq2.wanted app
    simp only [List.map_append, List.all_append, a1, a2, a3, b1, b2, b3]
    rfl
  have e2 : Hq2.tabB (app S T) g K = true := by
    unfold Hq2.tabB app at *
    rw [List.all_append, a4, b4]
    rfl
  rw [e1, e2]
/-- the top's run, to its end -/
abbrev whole (r : OpenRow) (M : Nat) (w : World) := wholeF (fun p => stepQ (denQ tabQ) p w) fenceQ M r.prog
theorem run_of {r : OpenRow} {q : Program} {n M : Nat} {S : Hq2.Spc} {ob : SharedT → Hq2.Av × Bool} {loose : List PySem.Str} {w : World} (ho : ∀ s, ob s = Hq2.obsG n S (HandSHeadRun.getT s)) (a : (whole r M w).map (fun x => looksF r.prog x.1.heap x.2.abs) = some true)
    (b : (whole r M w).map (fun x => seenQ q loose (importedModules r.prog.main.body) (fun s => xlAt q [] s && recOk r.toRowW.records s) x.2.abs) = some (openGood q loose))
    (c : (whole r M w).map (fun x => Hq2.obsG n S (HandSHeadRun.getT x.2)) = some (Hq2.wanted S, true)) : RunEqI r q (Hq2.hook n S) ob M loose w := by
  show (whole r M w).map _ = _
  cases e : whole r M w with
  | none => rw [e] at a; cases a
  | some x =>
    rw [e] at a b c
    simp only [Option.map_some, Option.some.injEq] at a b c ⊢
    rw [a, b, ho, c]
    rfl
theorem run_app {r : OpenRow} {n M : Nat} {S T : Hq2.Spc} {w : World} (c : (whole r M w).map (fun x => Hq2.obsG n S (HandSHeadRun.getT x.2)) = some (Hq2.wanted S, true)) (d : (whole r M w).map (fun x => Hq2.obsG n T (HandSHeadRun.getT x.2)) = some (Hq2.wanted T, true)) :
    (whole r M w).map (fun x => Hq2.obsG n (app S T) (HandSHeadRun.getT x.2)) = some (Hq2.wanted (app S T), true) := by
  cases e : whole r M w with
  | none => rw [e] at c; cases c
  | some x =>
    rw [e] at c d
    simp only [Option.map_some, Option.some.injEq] at c d ⊢
    exact obsG_app c d
end Hq3

namespace W6
open PySem PySem.Spec PyProof.Rows L2 Ru StX
def erCls : Fin 5 → Str
  | 0 => "Contradiction"
  | 1 => "InvalidHeater"
  | 2 => "InvalidNumber"
  | 3 => "InvalidWeather"
  | 4 => "OtherWeather"
abbrev s_IX_InvalidWeather : Stmt := inClass (top 19) 0
def fiveE : List (Fin 5) := [0, 1, 2, 3, 4]
theorem in_fiveE (j : Fin 5) : j ∈ fiveE := by revert j; decide
def kitE (K : PySem.W.Frag) : Bool := fiveE.all fun i => fiveE.all fun j => decide (PySem.W.kitOne K (.ref (He.ga K (erCls j))) (.ref (He.ga K (erCls i))) = some (decide (i = j)))
def gloB (K : PySem.W.Frag) (x : Str) : Bool := He.eqO (PySem.W.nsIn K mainGlobals x) (some (some (.ref (He.ga K x))))
def erL (K : PySem.W.Frag) (file : Str) : List Bool := [gloB K "WarmthError", fiveE.all fun j => gloB K (erCls j), He.eqO (PySem.W.nsIn K mainGlobals "ValueError") (some none), He.eqO (PySem.W.nsIn K mainGlobals "super") (some none),
  Hq2.ixB K (He.ga K "InvalidWeather"), fiveE.all fun j => Hq2.excB K (He.ga K (erCls j)), kitE K, fiveE.all fun j => decide (PySem.W.kitOne K (.ref (He.ga K (erCls j))) (.type "ValueError") = some true),
  fiveE.all fun j => decide (PySem.W.exmOne K (.ref (He.ga K (erCls j))) (.ref (He.ga K "WarmthError")) = some true),
  Hq.coB K (He.ma K (He.ga K "InvalidWeather") "__init__") "InvalidWeather.__init__", Hq2.ccB K (He.ma K (He.ga K "InvalidWeather") "__init__") (He.ga K "InvalidWeather"), Hq2.flB K (He.ma K (He.ga K "InvalidWeather") "__init__") file]

def fourE : List (Fin 5) := [0, 1, 2, 4]
theorem in_fourE (j : Fin 5) : j ≠ 3 → j ∈ fourE := by revert j; decide
def exL (K : PySem.W.Frag) : List Bool := [fourE.all fun j => PySem.W.excIn K (He.ga K (erCls j)) [.type "ValueError", .type "Exception", .type "BaseException", .type "object"] "ValueError.__new__",
  fiveE.all fun j => PySem.W.keepIn K (.ref (He.ga K (erCls j))), fiveE.all fun j => decide (PySem.W.subIn K (.ref (He.ga K (erCls j))) (.type "BaseException") = some true), fiveE.all fun j => decide (PySem.W.typeIn K (.ref (He.ga K (erCls j))) = some (Value.type "type"))]
abbrev hR : PySem.W.OpenRow := PySem.W.OpenLaw.row PySem.Challenge.rw_warmswitch_k10_whole_hidden_thresholds
def hb0 (K : PySem.W.Frag) : List Bool := [
  He.eqO (PySem.W.nsIn K mainGlobals "Drift") (some (some (.ref (He.ga K "Drift")))),
  PySem.W.plainGet K (He.ga K "Drift") Str.empty,
  PySem.W.hasDictIn K (He.ga K "Drift"),
  PySem.W.plainOver K (He.ga K "Drift"),
  He.eqO (PySem.W.findIn K (.ref (He.ga K "Drift")) "__setattr__") (some (some (.builtin "object.__setattr__"))),
  He.eqO (PySem.W.findIn K (.ref (He.ga K "Drift")) "round_ticks") (some none),
  He.eqO (PySem.W.findIn K (.ref (He.ga K "Drift")) "round_sum") (some none),
  He.eqO (PySem.W.findIn K (.ref (He.ga K "Drift")) "_sums") (some none),
  He.eqO (PySem.W.nsIn K mainGlobals "Stretch") (some (some (.ref (He.ga K "Stretch")))),
  PySem.W.plainGet K (He.ga K "Stretch") Str.empty,
  PySem.W.hasDictIn K (He.ga K "Stretch"),
  PySem.W.plainOver K (He.ga K "Stretch"),
  He.eqO (PySem.W.findIn K (.ref (He.ga K "Stretch")) "__setattr__") (some (some (.builtin "object.__setattr__"))),
  He.eqO (PySem.W.findIn K (.ref (He.ga K "Stretch")) "on") (some none),
  He.eqO (PySem.W.findIn K (.ref (He.ga K "Stretch")) "begin") (some none),
  He.eqO (PySem.W.findIn K (.ref (He.ga K "Stretch")) "_drifts") (some none),
  He.eqO (PySem.W.findIn K (.ref (He.ga K "Stretch")) "_drift") (some none),
  He.eqO (PySem.W.findIn K (.ref (He.ga K "Stretch")) "_base") (some none),
  He.eqO (PySem.W.nsIn K mainGlobals "Weather") (some (some (.ref (He.ga K "Weather")))),
  PySem.W.plainGet K (He.ga K "Weather") Str.empty,
  PySem.W.hasDictIn K (He.ga K "Weather"),
  PySem.W.plainOver K (He.ga K "Weather"),
  He.eqO (PySem.W.findIn K (.ref (He.ga K "Weather")) "__setattr__") (some (some (.builtin "object.__setattr__"))),
  He.eqO (PySem.W.findIn K (.ref (He.ga K "Weather")) "_changes") (some none),
  He.eqO (PySem.W.nsIn K mainGlobals "ThresholdObserver") (some (some (.ref (He.ga K "ThresholdObserver")))),
  PySem.W.plainGet K (He.ga K "ThresholdObserver") Str.empty,
  PySem.W.hasDictIn K (He.ga K "ThresholdObserver"),
  PySem.W.plainOver K (He.ga K "ThresholdObserver"),
  He.eqO (PySem.W.findIn K (.ref (He.ga K "ThresholdObserver")) "__setattr__") (some (some (.builtin "object.__setattr__"))),
  He.eqO (PySem.W.findIn K (.ref (He.ga K "ThresholdObserver")) "_unseen") (some none)]
def hb1 (K : PySem.W.Frag) : List Bool := [
  He.eqO (PySem.W.findIn K (.ref (He.ga K "ThresholdObserver")) "_lows") (some none),
  He.eqO (PySem.W.findIn K (.ref (He.ga K "ThresholdObserver")) "_highs") (some none),
  He.eqO (PySem.W.findIn K (.ref (He.ga K "ThresholdObserver")) "_accepted") (some none),
  He.eqO (PySem.W.nsIn K mainGlobals "first_invalid") (some (some (.ref (He.ga K "first_invalid")))),
  PySem.W.keepIn K (.ref (He.ga K "first_invalid")),
  He.eqO (PySem.W.findIn K (.ref (He.ga K "Drift")) "__init__") (some (some (.ref (He.ma K (He.ga K "Drift") "__init__")))),
  PySem.W.isFn K (.ref (He.ma K (He.ga K "Drift") "__init__")),
  PySem.W.keepIn K (.ref (He.ma K (He.ga K "Drift") "__init__")),
  PySem.W.makesIn K (He.ga K "Drift"),
  PySem.W.keepIn K (.ref (He.ga K "Drift")),
  He.eqO (PySem.W.findIn K (.ref (He.ga K "Drift")) "sum_to") (some (some (.ref (He.ma K (He.ga K "Drift") "sum_to")))),
  PySem.W.isFn K (.ref (He.ma K (He.ga K "Drift") "sum_to")),
  PySem.W.keepIn K (.ref (He.ma K (He.ga K "Drift") "sum_to")),
  He.eqO (PySem.W.nsIn K mainGlobals "both_drifts") (some (some (.ref (He.ga K "both_drifts")))),
  PySem.W.keepIn K (.ref (He.ga K "both_drifts")),
  He.eqO (PySem.W.findIn K (.ref (He.ga K "Stretch")) "__init__") (some (some (.ref (He.ma K (He.ga K "Stretch") "__init__")))),
  PySem.W.isFn K (.ref (He.ma K (He.ga K "Stretch") "__init__")),
  PySem.W.keepIn K (.ref (He.ma K (He.ga K "Stretch") "__init__")),
  PySem.W.makesIn K (He.ga K "Stretch"),
  PySem.W.keepIn K (.ref (He.ga K "Stretch")),
  He.eqO (PySem.W.findIn K (.ref (He.ga K "Stretch")) "degrees_at") (some (some (.ref (He.ma K (He.ga K "Stretch") "degrees_at")))),
  PySem.W.isFn K (.ref (He.ma K (He.ga K "Stretch") "degrees_at")),
  PySem.W.keepIn K (.ref (He.ma K (He.ga K "Stretch") "degrees_at")),
  He.eqO (PySem.W.findIn K (.ref (He.ga K "Stretch")) "continued") (some (some (.ref (He.ma K (He.ga K "Stretch") "continued")))),
  PySem.W.isFn K (.ref (He.ma K (He.ga K "Stretch") "continued")),
  PySem.W.keepIn K (.ref (He.ma K (He.ga K "Stretch") "continued")),
  He.eqO (PySem.W.findIn K (.ref (He.ga K "Stretch")) "switched") (some (some (.ref (He.ma K (He.ga K "Stretch") "switched")))),
  PySem.W.isFn K (.ref (He.ma K (He.ga K "Stretch") "switched")),
  PySem.W.keepIn K (.ref (He.ma K (He.ga K "Stretch") "switched")),
  He.eqO (PySem.W.findIn K (.ref (He.ga K "Stretch")) "extreme_before") (some (some (.ref (He.ma K (He.ga K "Stretch") "extreme_before"))))]
def hb2 (K : PySem.W.Frag) : List Bool := [
  PySem.W.isFn K (.ref (He.ma K (He.ga K "Stretch") "extreme_before")),
  PySem.W.keepIn K (.ref (He.ma K (He.ga K "Stretch") "extreme_before")),
  He.eqO (PySem.W.nsIn K mainGlobals "more_extreme") (some (some (.ref (He.ga K "more_extreme")))),
  PySem.W.keepIn K (.ref (He.ga K "more_extreme")),
  He.eqO (PySem.W.nsIn K mainGlobals "check_number") (some (some (.ref (He.ga K "check_number")))),
  PySem.W.keepIn K (.ref (He.ga K "check_number")),
  He.eqO (PySem.W.findIn K (.ref (He.ga K "Weather")) "__init__") (some (some (.ref (He.ma K (He.ga K "Weather") "__init__")))),
  PySem.W.isFn K (.ref (He.ma K (He.ga K "Weather") "__init__")),
  PySem.W.keepIn K (.ref (He.ma K (He.ga K "Weather") "__init__")),
  PySem.W.makesIn K (He.ga K "Weather"),
  PySem.W.keepIn K (.ref (He.ga K "Weather")),
  He.eqO (PySem.W.nsIn K mainGlobals "check_gain") (some (some (.ref (He.ga K "check_gain")))),
  PySem.W.keepIn K (.ref (He.ga K "check_gain")),
  He.eqO (PySem.W.findIn K (.ref (He.ga K "ThresholdObserver")) "__init__") (some (some (.ref (He.ma K (He.ga K "ThresholdObserver") "__init__")))),
  PySem.W.isFn K (.ref (He.ma K (He.ga K "ThresholdObserver") "__init__")),
  PySem.W.keepIn K (.ref (He.ma K (He.ga K "ThresholdObserver") "__init__")),
  He.eqO (PySem.W.nsIn K (Hq.kwA K (He.ma K (He.ga K "ThresholdObserver") "__init__")) "on") (some (some (.bool false))),
  PySem.W.makesIn K (He.ga K "ThresholdObserver"),
  PySem.W.keepIn K (.ref (He.ga K "ThresholdObserver")),
  He.eqO (PySem.W.findIn K (.ref (He.ga K "ThresholdObserver")) "see_switching") (some (some (.ref (He.ma K (He.ga K "ThresholdObserver") "see_switching")))),
  PySem.W.isFn K (.ref (He.ma K (He.ga K "ThresholdObserver") "see_switching")),
  PySem.W.keepIn K (.ref (He.ma K (He.ga K "ThresholdObserver") "see_switching")),
  He.eqO (PySem.W.findIn K (.ref (He.ga K "ThresholdObserver")) "see_rest") (some (some (.ref (He.ma K (He.ga K "ThresholdObserver") "see_rest")))),
  PySem.W.isFn K (.ref (He.ma K (He.ga K "ThresholdObserver") "see_rest")),
  PySem.W.keepIn K (.ref (He.ma K (He.ga K "ThresholdObserver") "see_rest")),
  He.eqO (PySem.W.findIn K (.ref (He.ga K "ThresholdObserver")) "_ranges_after_rest") (some (some (.ref (He.ma K (He.ga K "ThresholdObserver") "_ranges_after_rest")))),
  PySem.W.isFn K (.ref (He.ma K (He.ga K "ThresholdObserver") "_ranges_after_rest")),
  PySem.W.keepIn K (.ref (He.ma K (He.ga K "ThresholdObserver") "_ranges_after_rest")),
  He.eqO (PySem.W.findIn K (.ref (He.ga K "ThresholdObserver")) "_accept") (some (some (.ref (He.ma K (He.ga K "ThresholdObserver") "_accept")))),
  PySem.W.isFn K (.ref (He.ma K (He.ga K "ThresholdObserver") "_accept"))]
def hb3 (K : PySem.W.Frag) : List Bool := [
  PySem.W.keepIn K (.ref (He.ma K (He.ga K "ThresholdObserver") "_accept")),
  He.eqO (PySem.W.nsIn K mainGlobals "check_ranges") (some (some (.ref (He.ga K "check_ranges")))),
  PySem.W.keepIn K (.ref (He.ga K "check_ranges")),
  He.eqO (PySem.W.nsIn K mainGlobals "_law_mix") (some (some (.ref (He.ga K "_law_mix")))),
  PySem.W.keepIn K (.ref (He.ga K "_law_mix")),
  He.eqO (PySem.W.nsIn K mainGlobals "_law_next") (some (some (.ref (He.ga K "_law_next")))),
  PySem.W.keepIn K (.ref (He.ga K "_law_next")),
  He.eqO (PySem.W.nsIn K mainGlobals "_law_alike") (some (some (.ref (He.ga K "_law_alike")))),
  PySem.W.keepIn K (.ref (He.ga K "_law_alike")),
  He.eqO (PySem.W.nsIn K mainGlobals "_law_error") (some (some (.ref (He.ga K "_law_error")))),
  PySem.W.keepIn K (.ref (He.ga K "_law_error")),
  He.eqO (PySem.W.nsIn K mainGlobals "_law_changes") (some (some (.ref (He.ga K "_law_changes")))),
  PySem.W.keepIn K (.ref (He.ga K "_law_changes")),
  He.eqO (PySem.W.nsIn K mainGlobals "_law_weather") (some (some (.ref (He.ga K "_law_weather")))),
  PySem.W.keepIn K (.ref (He.ga K "_law_weather")),
  He.eqO (PySem.W.nsIn K mainGlobals "_law_setting") (some (some (.ref (He.ga K "_law_setting")))),
  PySem.W.keepIn K (.ref (He.ga K "_law_setting")),
  He.eqO (PySem.W.nsIn K mainGlobals "_law_told") (some (some (.ref (He.ga K "_law_told")))),
  PySem.W.keepIn K (.ref (He.ga K "_law_told")),
  He.eqO (PySem.W.nsIn K mainGlobals "_law_agrees") (some (some (.ref (He.ga K "_law_agrees")))),
  PySem.W.keepIn K (.ref (He.ga K "_law_agrees")),
  He.eqO (PySem.W.nsIn K mainGlobals "_law_ranges") (some (some (.ref (He.ga K "_law_ranges")))),
  PySem.W.keepIn K (.ref (He.ga K "_law_ranges")),
  He.eqO (PySem.W.nsIn K mainGlobals "_law_ends_right") (some (some (.ref (He.ga K "_law_ends_right")))),
  PySem.W.keepIn K (.ref (He.ga K "_law_ends_right")),
  He.eqO (PySem.W.nsIn K mainGlobals "law") (some (some (.ref (He.ga K "law")))),
  PySem.W.keepIn K (.ref (He.ga K "law")),
  He.eqO (PySem.W.findIn K (.ref (He.ga K "Weather")) "changes") (some (some (.ref (He.ma K (He.ga K "Weather") "changes")))),
  He.eqO (PySem.W.specialIn K (.ref (He.ma K (He.ga K "Weather") "changes")) "__get__") (some (some (.builtin "property.__get__"))),
  decide (PySem.W.takesIn K (.ref (He.ma K (He.ga K "Weather") "changes")) = some true)]
def hb4 (K : PySem.W.Frag) : List Bool := [
  Hq.gtB K (He.ma K (He.ga K "Weather") "changes"),
  PySem.W.keepIn K (.ref (Hq.gtA K (He.ma K (He.ga K "Weather") "changes"))),
  He.eqO (PySem.W.findIn K (.ref (He.ga K "ThresholdObserver")) "low_range") (some (some (.ref (He.ma K (He.ga K "ThresholdObserver") "low_range")))),
  He.eqO (PySem.W.specialIn K (.ref (He.ma K (He.ga K "ThresholdObserver") "low_range")) "__get__") (some (some (.builtin "property.__get__"))),
  decide (PySem.W.takesIn K (.ref (He.ma K (He.ga K "ThresholdObserver") "low_range")) = some true),
  Hq.gtB K (He.ma K (He.ga K "ThresholdObserver") "low_range"),
  PySem.W.keepIn K (.ref (Hq.gtA K (He.ma K (He.ga K "ThresholdObserver") "low_range"))),
  He.eqO (PySem.W.findIn K (.ref (He.ga K "ThresholdObserver")) "high_range") (some (some (.ref (He.ma K (He.ga K "ThresholdObserver") "high_range")))),
  He.eqO (PySem.W.specialIn K (.ref (He.ma K (He.ga K "ThresholdObserver") "high_range")) "__get__") (some (some (.builtin "property.__get__"))),
  decide (PySem.W.takesIn K (.ref (He.ma K (He.ga K "ThresholdObserver") "high_range")) = some true),
  Hq.gtB K (He.ma K (He.ga K "ThresholdObserver") "high_range"),
  PySem.W.keepIn K (.ref (Hq.gtA K (He.ma K (He.ga K "ThresholdObserver") "high_range"))),
  He.eqO (PySem.W.findIn K (.ref (He.ga K "ThresholdObserver")) "seen_ticks") (some (some (.ref (He.ma K (He.ga K "ThresholdObserver") "seen_ticks")))),
  He.eqO (PySem.W.specialIn K (.ref (He.ma K (He.ga K "ThresholdObserver") "seen_ticks")) "__get__") (some (some (.builtin "property.__get__"))),
  decide (PySem.W.takesIn K (.ref (He.ma K (He.ga K "ThresholdObserver") "seen_ticks")) = some true),
  Hq.gtB K (He.ma K (He.ga K "ThresholdObserver") "seen_ticks"),
  PySem.W.keepIn K (.ref (Hq.gtA K (He.ma K (He.ga K "ThresholdObserver") "seen_ticks"))),
  He.eqO (PySem.W.findIn K (.ref (He.ga K "ThresholdObserver")) "records") (some (some (.ref (He.ma K (He.ga K "ThresholdObserver") "records")))),
  He.eqO (PySem.W.specialIn K (.ref (He.ma K (He.ga K "ThresholdObserver") "records")) "__get__") (some (some (.builtin "property.__get__"))),
  decide (PySem.W.takesIn K (.ref (He.ma K (He.ga K "ThresholdObserver") "records")) = some true),
  Hq.gtB K (He.ma K (He.ga K "ThresholdObserver") "records"),
  PySem.W.keepIn K (.ref (Hq.gtA K (He.ma K (He.ga K "ThresholdObserver") "records"))),
  Hq.inB K "MOST_TICKS" 1000000000000000000,
  Hq.inB K "MOST_GAIN" 200,
  Hq.inB K "MOST_DEGREES" 1000000000000,
  He.eqO (PySem.W.nsIn K mainGlobals "abs") (some none),
  He.eqO (PySem.W.nsIn K mainGlobals "bool") (some none),
  He.eqO (PySem.W.nsIn K mainGlobals "dict") (some none),
  He.eqO (PySem.W.nsIn K mainGlobals "divmod") (some none),
  He.eqO (PySem.W.nsIn K mainGlobals "enumerate") (some none)]
def hb5 (K : PySem.W.Frag) : List Bool := [
  He.eqO (PySem.W.nsIn K mainGlobals "int") (some none),
  He.eqO (PySem.W.nsIn K mainGlobals "isinstance") (some none),
  He.eqO (PySem.W.nsIn K mainGlobals "len") (some none),
  He.eqO (PySem.W.nsIn K mainGlobals "list") (some none),
  He.eqO (PySem.W.nsIn K mainGlobals "max") (some none),
  He.eqO (PySem.W.nsIn K mainGlobals "min") (some none),
  He.eqO (PySem.W.nsIn K mainGlobals "range") (some none),
  He.eqO (PySem.W.nsIn K mainGlobals "sorted") (some none),
  He.eqO (PySem.W.nsIn K mainGlobals "str") (some none),
  He.eqO (PySem.W.nsIn K mainGlobals "sum") (some none),
  He.eqO (PySem.W.nsIn K mainGlobals "tuple") (some none),
  Hq.cvB K (He.ga K "Weather") "MAX_CHANGE" 100,
  Hq.cvB K (He.ga K "Weather") "MAX_TICKS" 24,
  (erL K hR.prog.main.file).all id,
  (exL K).all id,
  Hq.coB K (He.ga K "first_invalid") "first_invalid",
  Hq.coB K (He.ma K (He.ga K "Drift") "__init__") "Drift.__init__",
  Hq.coB K (He.ma K (He.ga K "Drift") "sum_to") "Drift.sum_to",
  Hq.coB K (He.ga K "both_drifts") "both_drifts",
  Hq.coB K (He.ma K (He.ga K "Stretch") "__init__") "Stretch.__init__",
  Hq.coB K (He.ma K (He.ga K "Stretch") "degrees_at") "Stretch.degrees_at",
  Hq.coB K (He.ma K (He.ga K "Stretch") "continued") "Stretch.continued",
  Hq.coB K (He.ma K (He.ga K "Stretch") "switched") "Stretch.switched",
  Hq.coB K (He.ma K (He.ga K "Stretch") "extreme_before") "Stretch.extreme_before",
  Hq.coB K (He.ga K "more_extreme") "more_extreme",
  Hq.coB K (He.ga K "check_number") "check_number",
  Hq.coB K (He.ma K (He.ga K "Weather") "__init__") "Weather.__init__",
  Hq.coB K (He.ga K "check_gain") "check_gain",
  Hq.coB K (He.ma K (He.ga K "ThresholdObserver") "__init__") "ThresholdObserver.__init__",
  Hq.kwB K (He.ma K (He.ga K "ThresholdObserver") "__init__")]
def hb6 (K : PySem.W.Frag) : List Bool := [
  Hq.coB K (He.ma K (He.ga K "ThresholdObserver") "see_switching") "ThresholdObserver.see_switching",
  Hq.coB K (He.ma K (He.ga K "ThresholdObserver") "see_rest") "ThresholdObserver.see_rest",
  Hq.coB K (He.ma K (He.ga K "ThresholdObserver") "_ranges_after_rest") "ThresholdObserver._ranges_after_rest",
  Hq.coB K (He.ma K (He.ga K "ThresholdObserver") "_accept") "ThresholdObserver._accept",
  Hq.coB K (He.ga K "check_ranges") "check_ranges",
  Hq.coB K (He.ga K "_law_mix") "_law_mix",
  Hq.coB K (He.ga K "_law_next") "_law_next",
  Hq.coB K (He.ga K "_law_alike") "_law_alike",
  Hq.coB K (He.ga K "_law_error") "_law_error",
  Hq.coB K (He.ga K "_law_changes") "_law_changes",
  Hq.coB K (He.ga K "_law_weather") "_law_weather",
  Hq.coB K (He.ga K "_law_setting") "_law_setting",
  Hq.coB K (He.ga K "_law_told") "_law_told",
  Hq.coB K (He.ga K "_law_agrees") "_law_agrees",
  Hq.coB K (He.ga K "_law_ranges") "_law_ranges",
  Hq.coB K (He.ga K "_law_ends_right") "_law_ends_right",
  Hq.coB K (He.ga K "law") "law",
  Hq.coB K (Hq.gtA K (He.ma K (He.ga K "Weather") "changes")) "Weather.changes",
  Hq.coB K (Hq.gtA K (He.ma K (He.ga K "ThresholdObserver") "low_range")) "ThresholdObserver.low_range",
  Hq.coB K (Hq.gtA K (He.ma K (He.ga K "ThresholdObserver") "high_range")) "ThresholdObserver.high_range",
  Hq.coB K (Hq.gtA K (He.ma K (He.ga K "ThresholdObserver") "seen_ticks")) "ThresholdObserver.seen_ticks",
  Hq.coB K (Hq.gtA K (He.ma K (He.ga K "ThresholdObserver") "records")) "ThresholdObserver.records"]
def hf0 : List ((PySem.W.Frag → Addr) × Hq.Mv) := [
  (fun K => (He.ga K "first_invalid"), Hq.mv "first_invalid" "first_invalid" s_first_invalid),
  (fun K => (He.ma K (He.ga K "Drift") "__init__"), Hq.mv "__init__" "Drift.__init__" s_Drift_init),
  (fun K => (He.ma K (He.ga K "Drift") "sum_to"), Hq.mv "sum_to" "Drift.sum_to" s_Drift_sum_to),
  (fun K => (He.ga K "both_drifts"), Hq.mv "both_drifts" "both_drifts" s_both_drifts),
  (fun K => (He.ma K (He.ga K "Stretch") "__init__"), Hq.mv "__init__" "Stretch.__init__" s_Stretch_init),
  (fun K => (He.ma K (He.ga K "Stretch") "degrees_at"), Hq.mv "degrees_at" "Stretch.degrees_at" s_Stretch_degrees_at),
  (fun K => (He.ma K (He.ga K "Stretch") "continued"), Hq.mv "continued" "Stretch.continued" s_Stretch_continued),
  (fun K => (He.ma K (He.ga K "Stretch") "switched"), Hq.mv "switched" "Stretch.switched" s_Stretch_switched),
  (fun K => (He.ma K (He.ga K "Stretch") "extreme_before"), Hq.mv "extreme_before" "Stretch.extreme_before" s_Stretch_extreme_before),
  (fun K => (He.ga K "more_extreme"), Hq.mv "more_extreme" "more_extreme" s_more_extreme),
  (fun K => (He.ga K "check_number"), Hq.mv "check_number" "check_number" s_check_number),
  (fun K => (He.ma K (He.ga K "Weather") "__init__"), Hq.mv "__init__" "Weather.__init__" s_Weather_init),
  (fun K => (He.ga K "check_gain"), Hq.mv "check_gain" "check_gain" s_check_gain),
  (fun K => (He.ma K (He.ga K "ThresholdObserver") "__init__"), Hq.mv "__init__" "ThresholdObserver.__init__" s_ThresholdObserver_init),
  (fun K => (He.ma K (He.ga K "ThresholdObserver") "see_switching"), Hq.mv "see_switching" "ThresholdObserver.see_switching" s_ThresholdObserver_see_switching),
  (fun K => (He.ma K (He.ga K "ThresholdObserver") "see_rest"), Hq.mv "see_rest" "ThresholdObserver.see_rest" s_ThresholdObserver_see_rest),
  (fun K => (He.ma K (He.ga K "ThresholdObserver") "_ranges_after_rest"), Hq.mv "_ranges_after_rest" "ThresholdObserver._ranges_after_rest" s_ThresholdObserver_ranges_after_rest),
  (fun K => (He.ma K (He.ga K "ThresholdObserver") "_accept"), Hq.mv "_accept" "ThresholdObserver._accept" s_ThresholdObserver_accept),
  (fun K => (He.ga K "check_ranges"), Hq.mv "check_ranges" "check_ranges" s_check_ranges),
  (fun K => (He.ga K "_law_mix"), Hq.mv "_law_mix" "_law_mix" s__law_mix),
  (fun K => (He.ga K "_law_next"), Hq.mv "_law_next" "_law_next" s__law_next),
  (fun K => (He.ga K "_law_alike"), Hq.mv "_law_alike" "_law_alike" s__law_alike),
  (fun K => (He.ga K "_law_error"), Hq.mv "_law_error" "_law_error" s__law_error),
  (fun K => (He.ga K "_law_changes"), Hq.mv "_law_changes" "_law_changes" s__law_changes),
  (fun K => (He.ga K "_law_weather"), Hq.mv "_law_weather" "_law_weather" s__law_weather),
  (fun K => (He.ga K "_law_setting"), Hq.mv "_law_setting" "_law_setting" s__law_setting),
  (fun K => (He.ga K "_law_told"), Hq.mv "_law_told" "_law_told" s__law_told),
  (fun K => (He.ga K "_law_agrees"), Hq.mv "_law_agrees" "_law_agrees" s__law_agrees),
  (fun K => (He.ga K "_law_ranges"), Hq.mv "_law_ranges" "_law_ranges" s__law_ranges),
  (fun K => (He.ga K "_law_ends_right"), Hq.mv "_law_ends_right" "_law_ends_right" s__law_ends_right)]
def hf1 : List ((PySem.W.Frag → Addr) × Hq.Mv) := [
  (fun K => (He.ga K "law"), Hq.mv "law" "law" s_law),
  (fun K => (Hq.gtA K (He.ma K (He.ga K "Weather") "changes")), Hq.mv "changes" "Weather.changes" s_Weather_changes),
  (fun K => (Hq.gtA K (He.ma K (He.ga K "ThresholdObserver") "low_range")), Hq.mv "low_range" "ThresholdObserver.low_range" s_ThresholdObserver_low_range),
  (fun K => (Hq.gtA K (He.ma K (He.ga K "ThresholdObserver") "high_range")), Hq.mv "high_range" "ThresholdObserver.high_range" s_ThresholdObserver_high_range),
  (fun K => (Hq.gtA K (He.ma K (He.ga K "ThresholdObserver") "seen_ticks")), Hq.mv "seen_ticks" "ThresholdObserver.seen_ticks" s_ThresholdObserver_seen_ticks),
  (fun K => (Hq.gtA K (He.ma K (He.ga K "ThresholdObserver") "records")), Hq.mv "records" "ThresholdObserver.records" s_ThresholdObserver_records)]
def hS0 : Hq2.Spc := ⟨fun K => hb0 K ++ (hb1 K ++ (hb2 K)), hf0, [], fun K => []⟩
def hS1 : Hq2.Spc := ⟨fun K => hb3 K ++ (hb4 K ++ (hb5 K ++ (hb6 K))), hf1, [(fun K => He.ma K (He.ga K "InvalidWeather") "__init__", Hq2.mvX "__init__" "InvalidWeather.__init__" s_IX_InvalidWeather)], fun K => [He.cT K ("law", none)]⟩
abbrev hS : Hq2.Spc := (Hq3.app hS0 hS1)
def hn0 : List PySem.Str := ["_wall", "first_invalid", "sum_of_first", "same_rounds", "added_rounds", "Timeline", "HeatingSum", "Drift", "both_drifts", "Stretch", "more_extreme", "heater_state", "Course", "WarmthError", "InvalidWeather", "InvalidHeater", "InvalidNumber", "OtherWeather", "Contradiction", "check_number", "MOST_TICKS", "Weather", "MOST_GAIN", "MOST_DEGREES", "MOST_TEMPERATURES", "check_gain", "check_ticks", "can_be_thresholds", "Heater", "Room"]
def hn1 : List PySem.Str := ["ThresholdObserver", "check_ranges", "_law_mix", "_law_next", "_law_alike", "_law_error", "_law_changes", "_law_weather", "_law_setting", "_law_told", "_law_room", "_law_agrees", "_law_ranges", "_law_ends_right"]
def hn : List PySem.Str := hn0 ++ (hn1)
abbrev hV : Program := PySem.W.view hR.prog [0, 53]
abbrev hk : PySem.W.Hook := Hq2.hook 5 hS
def hob (s : PySem.W.SharedT) : Hq2.Av × Bool := Hq2.obsG 5 hS (HandSHeadRun.getT s)
theorem hob_eq (s : PySem.W.SharedT) : hob s = hk.obs s.abs := Hq2.obsG_eq (HandSHeadRun.getT_eq s)
end W6

namespace W6
open PySem PySem.Spec PyProof.Rows L2 Ru StX
set_option maxHeartbeats 0 in
theorem hrunA (w : World) : (Hq3.whole hR 40000 w).map (fun x => HandSHeadRun.looksF hR.prog x.1.heap x.2.abs) = some true := by kernel_rfl
end W6

namespace W6
open PySem PySem.Spec PyProof.Rows L2 Ru StX
set_option maxHeartbeats 0 in
theorem hrunB (w : World) : (Hq3.whole hR 40000 w).map (fun x => HandSHeadRun.seenQ hV hn (importedModules hR.prog.main.body) (fun s => PySem.W.xlAt hV [] s && PySem.W.recOk hR.toRowW.records s) x.2.abs) = some (PySem.W.openGood hV hn) := by kernel_rfl
end W6

namespace W6
open PySem PySem.Spec PyProof.Rows L2 Ru StX
set_option maxHeartbeats 0 in
theorem hrun0 (w : World) : (Hq3.whole hR 40000 w).map (fun x => Hq2.obsG 5 hS0 (HandSHeadRun.getT x.2)) = some (Hq2.wanted hS0, true) := by kernel_rfl
end W6

namespace W6
open PySem PySem.Spec PyProof.Rows L2 Ru StX
set_option maxHeartbeats 0 in
theorem hrun1 (w : World) : (Hq3.whole hR 40000 w).map (fun x => Hq2.obsG 5 hS1 (HandSHeadRun.getT x.2)) = some (Hq2.wanted hS1, true) := by kernel_rfl
end W6

namespace W6
open PySem PySem.Spec PyProof.Rows L2 Ru StX
theorem hrun (w : World) : HandSHeadRun.RunEqI hR hV hk hob 40000 hn w := Hq3.run_of (fun _ => rfl) (hrunA w) (hrunB w) (Hq3.run_app (hrun0 w) (hrun1 w))
end W6

/-! what stands in the heap; the promises of the law's helpers -/
namespace W6
open PySem PySem.Spec PyProof.Rows L2
/-- all but two objects as they were -/
def Keep (x y : Addr) (H H' : Hp) : Prop := ∀ b o, b ≠ x → b ≠ y → H b = some o → H' b = some o
theorem Keep.refl (x y : Addr) (H : Hp) : Keep x y H H := fun _ _ _ _ h => h
theorem Keep.trans {x y : Addr} {H H1 H2 : Hp} (a : Keep x y H H1) (b : Keep x y H1 H2) : Keep x y H H2 := fun c o h1 h2 h => b c o h1 h2 (a c o h1 h2 h)
theorem Keep.of {x y : Addr} {H H1 : Hp} (a : Same H H1) : Keep x y H H1 := fun c o _ _ h => a c o h
/-- the draws: the mixed number, the cells, the index -/
def LH (H : Hp) (x y : Addr) : Prop := ∃ (m i : Int) (cs : List Int), H x = some (.lst [.int m, .ref y, .int i]) ∧ H y = some (.lst (cs.map V.int)) ∧ 0 ≤ m ∧ m < 2147483647 ∧ 0 ≤ i ∧ cs.length ≤ 63
theorem LH.ne {H : Hp} {x y : Addr} (h : LH H x y) : x ≠ y := by
  obtain ⟨m, i, cs, h1, h2, _⟩ := h
  refine ne_of h1 h2 fun e => ?_
  injection e with e
  cases cs with
  | nil => cases e
  | cons a r =>
    cases r with
    | nil => cases e
    | cons b r => simp at e
theorem LH.same {H H' : Hp} {x y : Addr} (h : LH H x y) (s : Same H H') : LH H' x y := by
  obtain ⟨m, i, cs, h1, h2, r⟩ := h
  exact ⟨m, i, cs, s _ _ h1, s _ _ h2, r⟩
/-- a free place is none of the two -/
theorem LH.off {H : Hp} {x y p : Addr} (h : LH H x y) (hp : H p = none) : p ≠ x ∧ p ≠ y := by
  obtain ⟨m, i, cs, h1, h2, r⟩ := h
  exact ⟨(ne_of_none h1 hp).symm, (ne_of_none h2 hp).symm⟩
theorem Keep.free {x y p : Addr} {H H' : Hp} (k : Keep x y H H') (h' : LH H' x y) (hp : H' p = none) : H p = none := by
  have o := h'.off hp
  cases e : H p with
  | none => rfl
  | some u => rw [k p u o.1 o.2 e] at hp; cases hp
/-- a new object -/
theorem same_upd {H : Hp} {p : Addr} {o : HO} (h : H p = none) : Same H (upd H p o) := fun b u e => by rw [upd_ne (ne_of_none e h)]; exact e
def spNext : Sp := fun vs H Q _ => ∃ (x y : Addr) (lim : Int), vs = [.ref x, .int lim] ∧ LH H x y ∧ 0 < lim ∧ lim < 18446744073709551616 ∧ ∀ r H', 0 ≤ r → r < lim → LH H' x y → Keep x y H H' → Q (.int r) H'
def spMix (K : PySem.W.Frag) : Sp := fun vs H Q _ => ∃ (c : Addr) (ns : List Int) (z : Int), vs = [.ref c, .int z] ∧ SqL K H c (ns.map V.int) ∧ 0 ≤ z ∧ z < 2147483647 ∧ ns.length ≤ 63 ∧ ∀ x y H', LH H' x y → Same H H' → H x = none → H y = none → Q (.ref x) H'
/-- some changes of a weather -/
def CH (cs : List Int) : Prop := 1 ≤ cs.length ∧ cs.length ≤ 24 ∧ ∀ c ∈ cs, -100 ≤ c ∧ c ≤ 100
def spChanges : Sp := fun vs H Q _ => ∃ (x y : Addr) (most : Int), vs = [.ref x, .int most] ∧ LH H x y ∧ 1 ≤ most ∧ most ≤ 24 ∧ ∀ p cs H', CH cs → (cs.length : Int) ≤ most → H' p = some (.tup (cs.map V.int)) → H p = none → LH H' x y → Keep x y H H' → Q (.ref p) H'
end W6
namespace W6
open PySem PySem.Spec PyProof.Rows L2
def spSetting : Sp := fun vs H Q _ => ∃ (x y : Addr), vs = [.ref x] ∧ LH H x y ∧ ∀ p (g lo hi st : Int) (on : Bool) H', 1 ≤ g → g ≤ 200 → lo ≤ hi → -100000000000 ≤ lo → hi ≤ 200000000000 → -1000000000000 ≤ st → st ≤ 1000000000000 → hi - lo ≤ 100000000000 → lo - 200000000000 ≤ st → st ≤ lo + 300000000000 →
  H' p = some (.tup [.int g, .int lo, .int hi, .int st, .bl on]) → H p = none → LH H' x y → Keep x y H H' → Q (.ref p) H'
def spDivisor : Sp := fun vs H Q _ => ∃ (x y : Nat), vs = [.int x, .int y] ∧ Q (.int ((Nat.gcd x y : Nat) : Int)) H
end W6
namespace W6
theorem ifF {c : Bool} {A B : Prop} (h : c = false) (b : B) : if c = true then A else B := by rw [h]; exact b
theorem ifT {c : Bool} {A B : Prop} (h : c = true) (x : A) : if c = true then A else B := by rw [h]; exact x
theorem dF {p : Prop} [Decidable p] (h : ¬ p) : decide p = false := decide_eq_false h
theorem dT {p : Prop} [Decidable p] (h : p) : decide p = true := decide_eq_true h
theorem nF {p : Prop} [Decidable p] (h : p) : (!decide p) = false := by rw [decide_eq_true h]; rfl
theorem nT {p : Prop} [Decidable p] (h : ¬ p) : (!decide p) = true := by rw [decide_eq_false h]; rfl
end W6

/-! the objects of the program in the heap, and the promises of its defs -/
namespace W6
open PySem PySem.Spec PyProof.Rows L2
/-- all but one as it was -/
def Fr1 (x : Addr) (H H' : Hp) : Prop := ∀ b o, b ≠ x → H b = some o → H' b = some o
theorem Fr1.of {x : Addr} {H H' : Hp} (h : Same H H') : Fr1 x H H' := fun b o _ e => h b o e
theorem Fr1.trans {x : Addr} {H H1 H2 : Hp} (a : Fr1 x H H1) (b : Fr1 x H1 H2) : Fr1 x H H2 := fun c o h e => b c o h (a c o h e)
theorem Fr1.upd {x : Addr} {H : Hp} {o : HO} : Fr1 x H (L2.upd H x o) := fun b u h e => by rw [upd_ne h]; exact e
/-- behind an __init__ all that stood before the instance was made stands -/
theorem Fr1.made {x dx C : Addr} {H H' : Hp} (nx : H x = none) (nd : H dx = none) (h : Fr1 x (L2.upd (L2.upd H dx (.own x)) x (.ins C dx [])) H') : Same H H' := fun b o e =>
  h b o (ne_of_none e nx) (by rw [upd_ne (ne_of_none e nx), upd_ne (ne_of_none e nd)]; exact e)
theorem same_made {x dx C : Addr} {H : Hp} (nx : H x = none) (nd : H dx = none) : Same H (L2.upd (L2.upd H dx (.own x)) x (.ins C dx [])) := fun b o e => by
  rw [upd_ne (ne_of_none e nx), upd_ne (ne_of_none e nd)]; exact e
/-- without some objects -/
def del (H : Hp) (S : List Addr) : Hp := fun b => if b ∈ S then none else H b
theorem del_in {H : Hp} {S : List Addr} {b : Addr} (h : b ∉ S) : del H S b = H b := if_neg h
theorem del_same {H : Hp} {S : List Addr} : Same (del H S) H := fun b o e => by
  by_cases h : b ∈ S
  · unfold del at e; rw [if_pos h] at e; cases e
  · rw [del_in h] at e; exact e
theorem del_some {H : Hp} {S : List Addr} {b : Addr} {o : HO} (e : del H S b = some o) : b ∉ S ∧ H b = some o := by
  by_cases h : b ∈ S
  · unfold del at e; rw [if_pos h] at e; cases e
  · rw [del_in h] at e; exact ⟨h, e⟩
theorem Fr1.del {x : Addr} {H H' : Hp} {S : List Addr} (h : Fr1 x H H') : Fr1 x (del H S) (del H' S) := fun b o n e => by
  obtain ⟨q, e⟩ := del_some e
  rw [del_in q]; exact h b o n e
theorem Same.del {H H' : Hp} {S : List Addr} (h : Same H H') : Same (del H S) (del H' S) := fun b o e => by
  obtain ⟨q, e⟩ := del_some e
  rw [del_in q]; exact h b o e
section
variable (a : Ad)
def WAt (H : Hp) (z : Addr) (cs : List Int) : Prop := ∃ dx t, H z = some (.ins a.c_Weather dx [("_changes", .ref t)]) ∧ H t = some (.tup (cs.map V.int))
def HAt (H : Hp) (z : Addr) (g lo hi : Int) : Prop := ∃ dx, H z = some (.ins a.c_Heater dx [("_gain", .int g), ("_low", .int lo), ("_high", .int hi)])
def sumsV (cs : List Int) (gg : Int) : List V := (List.range cs.length).map fun r => V.int (Th.pre cs gg r)
def DAt (H : Hp) (z : Addr) (cs : List Int) (gg : Int) : Prop := (CH cs ∧ 0 ≤ gg ∧ gg ≤ 200) ∧ ∃ dx l, H z = some (.ins a.c_Drift dx [("round_ticks", .int cs.length), ("round_sum", .int (Th.rsum cs gg)), ("_sums", .ref l)]) ∧ H l = some (.lst (sumsV cs gg))
def DDs (H : Hp) (t : Addr) (cs : List Int) (g : Int) : Prop := ∃ d0 d1, H t = some (.tup [.ref d0, .ref d1]) ∧ DAt a H d0 cs 0 ∧ DAt a H d1 cs g
def SAt (H : Hp) (z : Addr) (cs : List Int) (g : Int) (on : Bool) (b : Nat) (base : Int) : Prop := ∃ dx td d, H z = some (.ins a.c_Stretch dx [("on", .bl on), ("begin", .int b), ("_drifts", .ref td), ("_drift", .ref d), ("_base", .int base)]) ∧ DDs a H td cs g ∧ DAt a H d cs (Th.gon g on)
def bkV : Option Nat → V
  | none => .non
  | some k => .int k
def TAt (H : Hp) (z : Addr) (bs : List Nat) (back : Option Nat) : Prop := ∃ dx lb, H z = some (.ins a.c_Timeline dx [("back", bkV back), ("last", .int ((bs.length : Int) - 1)), ("_begins", .ref lb)]) ∧ H lb = some (.lst (bs.map fun (b : Nat) => V.int (b : Int)))
/-- the heating of ticks that count 1 each -/
def YAt (H : Hp) (z : Addr) (p : Th.Par) (bs : List Nat) (back : Option Nat) : Prop := ∃ dx am tl ls, H z = some (.ins a.c_HeatingSum dx [("_on", .bl (Th.onn p 0)), ("_amounts", .ref am), ("_timeline", .ref tl), ("_sums", .ref ls)]) ∧ H am = some (.tup [.int 1]) ∧ TAt a H tl bs back ∧ H ls = some (.lst (bs.map fun b => V.int (Th.Hc p b)))
def CAt (H : Hp) (z : Addr) (p : Th.Par) (bs : List Nat) (back : Option Nat) : Prop := ∃ (dx ls tl hs : Addr) (qs : List Addr), H z = some (.ins a.c_Course dx [("_low", .int p.lo), ("_high", .int p.hi), ("_stretches", .ref ls), ("_timeline", .ref tl), ("_heating", .ref hs)]) ∧
  H ls = some (.lst (qs.map V.ref)) ∧ qs.length = bs.length ∧ (∀ (i : Nat) (q : Addr) (b : Nat), qs[i]? = some q → bs[i]? = some b → SAt a H q p.ch p.g (Th.onn p b) b (Th.baB p b)) ∧ TAt a H tl bs back ∧ YAt a H hs p bs back
end
section
variable {a : Ad} {H H' : Hp} {z : Addr}
theorem WAt.same {cs : List Int} (h : WAt a H z cs) (s : Same H H') : WAt a H' z cs := let ⟨dx, t, h1, h2⟩ := h; ⟨dx, t, s _ _ h1, s _ _ h2⟩
theorem HAt.same {g lo hi : Int} (h : HAt a H z g lo hi) (s : Same H H') : HAt a H' z g lo hi := let ⟨dx, h1⟩ := h; ⟨dx, s _ _ h1⟩
theorem DAt.same {cs : List Int} {g : Int} (h : DAt a H z cs g) (s : Same H H') : DAt a H' z cs g := let ⟨b, dx, t, h1, h2⟩ := h; ⟨b, dx, t, s _ _ h1, s _ _ h2⟩
theorem DDs.same {cs : List Int} {g : Int} (h : DDs a H z cs g) (s : Same H H') : DDs a H' z cs g := let ⟨d0, d1, h1, h2, h3⟩ := h; ⟨d0, d1, s _ _ h1, h2.same s, h3.same s⟩
theorem SAt.same {cs : List Int} {g base : Int} {on : Bool} {b : Nat} (h : SAt a H z cs g on b base) (s : Same H H') : SAt a H' z cs g on b base := let ⟨dx, td, d, h1, h2, h3⟩ := h; ⟨dx, td, d, s _ _ h1, h2.same s, h3.same s⟩
theorem TAt.same {bs : List Nat} {back : Option Nat} (h : TAt a H z bs back) (s : Same H H') : TAt a H' z bs back := let ⟨dx, lb, h1, h2⟩ := h; ⟨dx, lb, s _ _ h1, s _ _ h2⟩
theorem YAt.same {p : Th.Par} {bs : List Nat} {back : Option Nat} (h : YAt a H z p bs back) (s : Same H H') : YAt a H' z p bs back := let ⟨dx, am, tl, ls, h1, h2, h3, h4⟩ := h; ⟨dx, am, tl, ls, s _ _ h1, s _ _ h2, h3.same s, s _ _ h4⟩
theorem CAt.same {p : Th.Par} {bs : List Nat} {back : Option Nat} (h : CAt a H z p bs back) (s : Same H H') : CAt a H' z p bs back :=
  let ⟨dx, ls, tl, hs, qs, h1, h2, h3, h4, h5, h6⟩ := h; ⟨dx, ls, tl, hs, qs, s _ _ h1, s _ _ h2, h3, fun i q b e1 e2 => (h4 i q b e1 e2).same s, h5.same s, h6.same s⟩
end
/-! ### promises -/
def spGain : Sp := fun vs H Q _ => ∃ g : Int, vs = [.int g] ∧ 1 ≤ g ∧ g ≤ 200 ∧ Q .non H
def spNum : Sp := fun vs H Q _ => ∃ n l u : Int, vs = [.int n, .int l, .int u] ∧ l ≤ n ∧ n ≤ u ∧ Q .non H
section
variable (a : Ad)
/-- the first value that is out of range or too many; none without one -/
def spFi : Sp := fun vs H Q _ => ∃ (t : Addr) (cs : List Int) (lo hi most : Int), vs = [.ref t, .int lo, .int hi, .int most] ∧ H t = some (.tup (cs.map V.int)) ∧
  (∀ H', Same H H' → cs ≠ [] → (∀ (i : Nat) (c : Int), cs[i]? = some c → (i : Int) < most ∧ lo ≤ c ∧ c ≤ hi) → Q .non H') ∧ (∀ H' (i : Nat) (c : Int), Same H H' → cs[i]? = some c → ¬ ((i : Int) < most ∧ lo ≤ c ∧ c ≤ hi) → (∀ (j : Nat) (d : Int), j < i → cs[j]? = some d → (j : Int) < most ∧ lo ≤ d ∧ d ≤ hi) → Q (.int i) H') ∧ (∀ H', Same H H' → cs = [] → Q (.int 0) H')
def spCb : Sp := fun vs H Q _ => ∃ lo hi : Int, vs = [.int lo, .int hi] ∧ Q (.bl (decide (-1000000000000 ≤ lo ∧ lo ≤ hi ∧ hi ≤ 1000000000000))) H
/-- Weather's __init__ with the tuple of its changes -/
def spWi : Sp := fun vs H Q _ => ∃ (x dx p : Addr) (cs : List Int), vs = [.ref x, .ref p] ∧ H x = some (.ins a.c_Weather dx []) ∧ H p = some (.tup (cs.map V.int)) ∧ CH cs ∧ ∀ H', Fr1 x H H' → WAt a H' x cs → Q .non H'
def spWs : Sp := fun vs H Q E => ∃ ws rest, vs = ws ++ rest ∧ ws.length = ["self"].length ∧ rest.length ≤ sizeLine ∧ ∀ p, H p = Option.none → spWi a (ws ++ [V.ref p]) (upd H p (.tup rest)) Q E
def spWeather : Sp := fun vs H Q _ => ∃ (t : Addr) (cs : List Int), vs = [.ref t] ∧ H t = some (.tup (cs.map V.int)) ∧ CH cs ∧ cs.length ≤ 6 ∧ ∀ z H', Same H H' → WAt a H' z cs → Q (.ref z) H'
def spHi : Sp := fun vs H Q _ => ∃ (x dx : Addr) (g lo hi : Int), vs = [.ref x, .int g, .int lo, .int hi] ∧ H x = some (.ins a.c_Heater dx []) ∧ 1 ≤ g ∧ g ≤ 200 ∧ lo ≤ hi ∧ -1000000000000 ≤ lo ∧ hi ≤ 1000000000000 ∧ ∀ H', Fr1 x H H' → HAt a H' x g lo hi → Q .non H'
def spDi : Sp := fun vs H Q _ => ∃ (x dx t : Addr) (cs : List Int) (gg : Int), vs = [.ref x, .ref t, .int gg] ∧ H x = some (.ins a.c_Drift dx []) ∧ H t = some (.tup (cs.map V.int)) ∧ CH cs ∧ 0 ≤ gg ∧ gg ≤ 200 ∧ ∀ H', Fr1 x H H' → DAt a H' x cs gg → Q .non H'
def spSum : Sp := fun vs H Q _ => ∃ (x : Addr) (t : Nat) (cs : List Int) (gg : Int), vs = [.ref x, .int t] ∧ DAt a H x cs gg ∧ ∀ H', Same H H' → Q (.int (Th.sumTo cs gg t)) H'
def spBoth : Sp := fun vs H Q _ => ∃ (t : Addr) (cs : List Int) (g : Int), vs = [.ref t, .int g] ∧ H t = some (.tup (cs.map V.int)) ∧ CH cs ∧ 1 ≤ g ∧ g ≤ 200 ∧ ∀ z H', Same H H' → DDs a H' z cs g → Q (.ref z) H'
def spSi : Sp := fun vs H Q _ => ∃ (S : List Addr) (x dx td : Addr) (cs : List Int) (g d : Int) (on : Bool) (b : Nat), vs = [.ref x, .ref td, .bl on, .int b, .int d] ∧ H x = some (.ins a.c_Stretch dx []) ∧ x ∉ S ∧ DDs a (del H S) td cs g ∧ ∀ H', Fr1 x H H' → SAt a (del H' S) x cs g on b (d - Th.sumTo cs (Th.gon g on) b) → Q .non H'
def spDeg : Sp := fun vs H Q _ => ∃ (x : Addr) (t b : Nat) (cs : List Int) (g base : Int) (on : Bool), vs = [.ref x, .int t] ∧ SAt a H x cs g on b base ∧ ∀ H', Same H H' → Q (.int (Th.Dg cs (Th.gon g on) base t)) H'
def spState : Sp := fun vs H Q _ => ∃ (x : Addr) (b : Nat) (cs : List Int) (g base : Int) (on : Bool), vs = [.ref x] ∧ SAt a H x cs g on b base ∧ ∀ z H', Same H H' → H z = none → H' z = some (.tup [.int (((b % cs.length : Nat)) : Int), .int (Th.Dg cs (Th.gon g on) base b), .bl on]) → Q (.ref z) H'
def spSwitched : Sp := fun vs H Q _ => ∃ (S : List Addr) (x : Addr) (e b : Nat) (cs : List Int) (g base : Int) (on : Bool), vs = [.ref x, .int e] ∧ (∀ s ∈ S, ∃ o, H s = some o) ∧ SAt a (del H S) x cs g on b base ∧ ∀ z H', Same H H' → H z = none → SAt a (del H' S) z cs g (!on) e (Th.Dg cs (Th.gon g on) base e - Th.sumTo cs (Th.gon g (!on)) e) → Q (.ref z) H'
def spLevel : Sp := fun vs H Q _ => ∃ (x : Addr) (b : Nat) (cs : List Int) (g base : Int) (on : Bool), vs = [.ref x] ∧ SAt a H x cs g on b base ∧ Q (if Th.rsum cs (Th.gon g on) = 0 then .int cs.length else .non) H
def optV : Option Nat → V
  | none => .non
  | some k => .int k
def spFb : Sp := fun vs H Q _ => ∃ (x : Addr) (b : Nat) (cs : List Int) (g base bound sgn : Int) (on : Bool), vs = [.ref x, .int bound, .int sgn] ∧ SAt a H x cs g on b base ∧ b ≤ 1000000000000000000 ∧ (sgn = 1 ∨ sgn = -1) ∧
  ∀ r H', Same H H' → Th.FB cs (Th.gon g on) base b sgn bound r → Q (optV r) H'
def spHst : Sp := fun vs H Q _ => ∃ (d lo hi : Int) (b : Bool), vs = [.int d, .int lo, .int hi, .bl b] ∧ Q (.bl (Th.hst d lo hi b)) H
def spEnd : Sp := fun vs H Q _ => ∃ (c x dx : Addr) (fs : List (Str × V)) (p : Th.Par) (b : Nat), vs = [.ref c, .ref x] ∧ H c = some (.ins a.c_Course dx fs) ∧ fs.lookup ("_low" : Str) = some (.int p.lo) ∧ fs.lookup ("_high" : Str) = some (.int p.hi) ∧ fs.lookup ("first_beyond" : Str) = none ∧ SAt a H x p.ch p.g (Th.onn p b) b (Th.baB p b) ∧ b ≤ 1000000000000000000 ∧
  ∀ r H', Same H H' → Th.FB p.ch (Th.ggB p b) (Th.baB p b) b (Th.sgB p b) (Th.bdB p b) r → Q (optV r) H'
end
end W6

namespace W6
open PySem PySem.Spec PyProof.Rows L2
theorem ix_of {n : Nat} {z : Int} (h0 : 0 ≤ z) (h1 : z < n) : ixN n z = some z.toNat := by
  unfold ixN
  rw [if_pos h0, if_pos h1]
theorem at_int {xs : List V} {z : Int} {v : V} (h0 : 0 ≤ z) (h : xs[z.toNat]? = some v) : atI xs z = some v := by
  unfold atI
  have hl := (List.getElem?_eq_some_iff.mp h).1
  rw [ix_of h0 (by omega)]
  exact h
theorem map_at {cs : List Int} {j : Nat} (h : j < cs.length) : (cs.map V.int)[j]? = some (.int (cs.getD j 0)) := by
  simp [h]
theorem pick {cs : List Int} {i : Int} (i0 : 0 ≤ i) : ∃ c : Int, atI (cs.map V.int ++ [V.int 0]) (i % (if (((cs.map V.int).length : Nat) : Int) > 1 then (((cs.map V.int).length : Nat) : Int) else 1)) = some (.int c) ∧ (1000000000000000000 ≤ c → 0 < cs.length) := by
  rw [List.length_map]
  cases cs with
  | nil =>
    refine ⟨0, ?_, fun h => by omega⟩
    simp only [List.length_nil, Int.natCast_zero]
    rw [if_neg (by omega), show i % 1 = 0 by omega]
    rfl
  | cons e r =>
    generalize hn : (if (((e :: r).length : Nat) : Int) > 1 then (((e :: r).length : Nat) : Int) else 1) = n
    have hn2 : n = ((e :: r).length : Nat) := by
      subst hn
      simp only [List.length_cons]
      split <;> omega
    have npos : 0 < n := by rw [hn2]; simp only [List.length_cons]; omega
    have h0 : 0 ≤ i % n := Int.emod_nonneg _ (by omega)
    have h1 : i % n < n := Int.emod_lt_of_pos _ npos
    refine ⟨(e :: r).getD (i % n).toNat 0, at_int h0 ?_, fun _ => by simp⟩
    have hl : (i % n).toNat < (e :: r).length := by omega
    rw [List.getElem?_append_left (by rw [List.length_map]; exact hl)]
    exact map_at hl
section
variable {P : Program} {w : World} {K : PySem.W.Frag} {mg : Str → Option Value} {base : Heap} {a : Ad}
theorem ok__law_next (T : Txt K mg a) : FnOk P w K mg base CX0 1 a.f__law_next a.d__law_next ["_law_h", "_law_limit"] spNext := by
  refine T.F__law_next.ok sc__law_next (fun vs H Q E h => ?_) (fun cdv A outer s H vs Q E hr h => ?_)
  · obtain ⟨x, y, lim, rfl, _⟩ := h
    rfl
  · obtain ⟨x, y, lim, rfl, lh, l0, l1, k⟩ := h
    have hne := lh.ne
    obtain ⟨m, i, cs, hx, hy, m0, m1, i0, cl⟩ := id lh
    refine ⟨_, (pss_cons (ps_set (i := 2) sc__law_next.nd rfl (Or.inl rfl) (pe_ix ix_list (pe_op op_cat (pe_ix ix_list (pv 0) pe_int (fun _ _ => rfl)) (pe_lst (pa_cons pe_int pa_nil))) (pe_op op_mod (pe_ix ix_list (pv 0) pe_int (fun _ _ => rfl)) (pe_callB (call_max2 rfl) (by rfl) T.z_max (by decide +kernel) (pa_cons pe_int (pa_cons (pe_callB call_len_seq (by rfl) T.z_len PySem.boot_len (pa_cons (pe_ix ix_list (pv 0) pe_int (fun _ _ => rfl)) pa_nil)) pa_nil)))) (fun _ _ => rfl)))
      (pss_cons (ps_if (pt_cmpR op_ge (pv 2) (pe_op op_pow pe_int pe_int) (nomark _)) (pss_cons (ps_asg (pe_op op_fdivW (pv 2) (pv 1)) (pg_sub (pe_ix ix_list (pv 0) pe_int (fun _ _ => rfl)) (pe_op op_mod (pe_ix ix_list (pv 0) pe_int (fun _ _ => rfl)) (pe_callB call_len_seq (by rfl) T.z_len PySem.boot_len (pa_cons (pe_ix ix_list (pv 0) pe_int (fun _ _ => rfl)) pa_nil))) set_list))
      (pss_one (ps_ret (pe_op op_mod (pv 2) (pv 1))))) pss_nil)
      (pss_cons (ps_asg (pe_op op_mod (pe_op op_add (pe_op op_add (pe_op op_mul (pe_ix ix_list (pv 0) pe_int (fun _ _ => rfl)) pe_int) (pe_op op_mul (pv 2) pe_int)) pe_int) pe_int) (pg_sub (pv 0) pe_int set_list))
      (pss_cons (ps_asg (pe_op op_add (pe_ix ix_list (pv 0) pe_int (fun _ _ => rfl)) pe_int) (pg_sub (pv 0) pe_int set_list))
      (pss_one (ps_ret (pe_op op_mod (pe_op op_fdiv (pe_ix ix_list (pv 0) pe_int (fun _ _ => rfl)) pe_int) (pv 1)))))))), ?_⟩
    refine ⟨_, rfl, x, _, _, _, rfl, rfl, SqL.of hx, rfl, (by show 1 ≤ sizeLine; decide), fun p hp => ?_⟩
    have op := lh.off hp
    have y1 : (upd H p (.lst [V.int 0])) y = some (.lst (cs.map V.int)) := by rw [upd_ne op.2.symm]; exact hy
    refine ⟨y, p, _, _, rfl, rfl, y1, upd_same, (by rw [List.length_map]; exact Nat.le_trans (Nat.add_le_add_right cl _) (by decide)), fun q hq => ?_⟩
    have s1 : Same H (upd (upd H p (.lst [V.int 0])) q (.lst (cs.map V.int ++ [V.int 0]))) := (same_upd hp).trans (same_upd hq)
    generalize hH2 : upd (upd H p (.lst [V.int 0])) q (.lst (cs.map V.int ++ [V.int 0])) = H2 at s1
    have q2 : H2 q = some (.lst (cs.map V.int ++ [V.int 0])) := by rw [← hH2]; exact upd_same
    have x2 := s1 _ _ hx
    have y2 := s1 _ _ hy
    obtain ⟨c, hc, hc2⟩ := pick (cs := cs) i0
    refine ⟨_, rfl, x, _, _, _, rfl, rfl, SqL.of x2, rfl, _, rfl, x, _, _, _, rfl, rfl, SqL.of x2, rfl, y, _, rfl, .inl (SqL.of y2), _, _, rfl, _, _, rfl, rfl, (by dsimp only; split <;> omega), q, _, _, _, rfl, rfl, SqL.of q2, hc, ?_⟩
    refine ⟨_, rfl, _, _, rfl, rfl, ⟨by decide, by decide, by decide⟩, _, _, rfl, rfl, _, rfl, ?_⟩
    refine ite2 (fun big => ?_) (fun small => ?_)
    · have big' : (1000000000000000000 : Int) ≤ c := of_decide_eq_true big
      have cpos := hc2 big'
      have jn : (0 : Int) ≤ i % (((cs.map V.int).length : Nat) : Int) := Int.emod_nonneg _ (by rw [List.length_map]; omega)
      have jl : i % (((cs.map V.int).length : Nat) : Int) < (((cs.map V.int).length : Nat) : Int) := Int.emod_lt_of_pos _ (by rw [List.length_map]; omega)
      refine ⟨_, rfl, _, rfl, _, _, rfl, rfl, wide_div (b := 64) l0 (by omega) (by decide) (by decide), _, rfl, x, _, _, _, rfl, rfl, SqL.of x2, rfl, _, rfl, x, _, _, _, rfl, rfl, SqL.of x2, rfl, _, rfl, x, _, _, _, rfl, rfl, SqL.of x2, rfl, y, _, rfl, .inl (SqL.of y2), _, _, rfl, rfl, (by rw [List.length_map]; omega), y, _, _, _, rfl, rfl, y2, ix_of jn jl, ?_⟩
      refine ⟨_, rfl, _, rfl, _, _, rfl, rfl, l0, k _ _ (Int.emod_nonneg _ (by omega)) (Int.emod_lt_of_pos _ l0) ?_ ?_⟩
      · · refine ⟨m, i, cs.set (i % (((cs.map V.int).length : Nat) : Int)).toNat (c / lim), by rw [upd_ne hne]; exact x2, by rw [upd_same, List.map_set], m0, m1, i0, by rw [List.length_set]; exact cl⟩
      · intro b o h1 h2 h3
        rw [upd_ne h2]
        exact s1 _ _ h3
    · refine ⟨_, rfl, x, _, _, _, rfl, rfl, SqL.of x2, rfl, _, _, rfl, rfl, .inr ⟨by decide, by decide⟩, _, rfl, _, _, rfl, rfl, .inr ⟨by decide, by decide⟩, _, _, rfl, rfl, _, _, rfl, rfl, _, _, rfl, rfl, (by show (0 : Int) < 2147483647; decide), _, rfl, x, _, _, _, rfl, rfl, x2, rfl, ?_⟩
      refine ⟨_, rfl, x, _, _, _, rfl, rfl, SqL.of upd_same, rfl, _, _, rfl, rfl, _, rfl, x, _, _, _, rfl, rfl, upd_same, rfl, ?_⟩
      refine ⟨_, rfl, x, _, _, _, rfl, rfl, SqL.of upd_same, rfl, _, _, rfl, rfl, ⟨by decide, by decide⟩, _, rfl, _, _, rfl, rfl, l0, k _ _ (Int.emod_nonneg _ (by omega)) (Int.emod_lt_of_pos _ l0) ?_ ?_⟩
      · exact ⟨_, _, cs, upd_same, by rw [upd_ne hne.symm, upd_ne hne.symm]; exact y2, Int.emod_nonneg _ (by omega), Int.emod_lt_of_pos _ (by omega), by omega, cl⟩
      · intro b o h1 h2 h3
        rw [upd_ne h1, upd_ne h1]
        exact s1 _ _ h3
theorem ok__law_mix (T : Txt K mg a) : FnOk P w K mg base CX0 1 a.f__law_mix a.d__law_mix ["_law_script", "_law_seed"] (spMix K) := by
  refine T.F__law_mix.ok sc__law_mix (fun vs H Q E h => ?_) (fun cdv A outer s H vs Q E hr h => ?_)
  · obtain ⟨c, ns, z, rfl, _⟩ := h
    rfl
  · obtain ⟨c, ns, z, rfl, hS, z0, z1, hl, k⟩ := h
    refine ⟨_, (pss_cons (ps_set (i := 2) sc__law_mix.nd rfl (Or.inl rfl) (pv 1))
      (pss_cons (ps_for PassesOwn.never rfl (pi_list (pv 0)) (pg_name (i := 3) sc__law_mix.nd rfl (Or.inl rfl))
        (pss_one (ps_set (i := 2) sc__law_mix.nd rfl (Or.inl rfl) (pe_op op_mod (pe_op op_add (pe_op op_add (pe_op op_mul (pv 2) pe_int) (pe_op op_mod (pv 3) pe_int)) pe_int) pe_int))))
      (pss_one (ps_ret (pe_lst (pa_cons (pv 2) (pa_cons (pe_callTy call_list_of (by rfl) T.z_list (by decide +kernel) (pa_cons (pv 0) pa_nil)) (pa_cons pe_int pa_nil)))))))), ?_⟩
    refine ⟨_, rfl, _, rfl, c, rfl, ⟨_, hS⟩, for_list (K := K) (a := c) (xs := ns.map V.int) (fun i σ H' => ∃ (m : Int) (v : Option V), σ = [some (.ref c), some (.int z), some (.int m), v] ∧ 0 ≤ m ∧ m < 2147483647 ∧ H' = H) ⟨z, none, rfl, z0, z1, rfl⟩ (fun i σ H' _ ⟨_, _, _, _, _, e⟩ => e ▸ hS) ?_ ?_⟩
    · rintro i v σ H' hi ⟨m, o, rfl, m0, m1, rfl⟩
      obtain ⟨u, rfl⟩ : ∃ u, v = V.int u := by
        rw [List.getElem?_map] at hi
        cases e : ns[i]? with
        | none => rw [e] at hi; cases hi
        | some u => rw [e] at hi; exact ⟨u, (Option.some.inj hi).symm⟩
      refine ⟨_, rfl, _, _, rfl, rfl, .inr ⟨by decide, by decide⟩, _, rfl, _, _, rfl, rfl, (by show (0 : Int) < 2147483629; decide), _, _, rfl, rfl, _, _, rfl, rfl, _, _, rfl, rfl, (by show (0 : Int) < 2147483647; decide), ?_⟩
      exact ⟨_, _, rfl, Int.emod_nonneg _ (by omega), Int.emod_lt_of_pos _ (by omega), rfl⟩
    · rintro σ H' ⟨m, o, rfl, m0, m1, rfl⟩
      refine ⟨_, rfl, _, rfl, c, _, rfl, .inl hS, fun y hy => ⟨by show 3 ≤ sizeLine; decide, fun x hx => ?_⟩⟩
      have nyx : y ≠ x := ne_of_none upd_same hx
      have hx0 : H' x = none := by rw [upd_ne nyx.symm] at hx; exact hx
      refine k x y _ ⟨m, 0, ns, upd_same, by rw [upd_ne nyx]; exact upd_same, m0, m1, by omega, hl⟩ ((same_upd hy).trans (same_upd hx)) hx0 hy
end
end W6

namespace W6
open PySem PySem.Spec PyProof.Rows L2
section
variable {P : Program} {w : World} {K : PySem.W.Frag} {mg : Str → Option Value} {base : Heap} {a : Ad}
theorem three {r : Int} (h0 : 0 ≤ r) (h1 : r < 3) (A B C : V) : ∃ v, atI [A, B, C] r = some v ∧ (v = A ∨ v = B ∨ v = C) := by
  rcases (show r = 0 ∨ r = 1 ∨ r = 2 by omega) with rfl | rfl | rfl
  · exact ⟨A, rfl, .inl rfl⟩
  · exact ⟨B, rfl, .inr (.inl rfl)⟩
  · exact ⟨C, rfl, .inr (.inr rfl)⟩
theorem ok__law_changes (T : Txt K mg a) : FnOk P w K mg base CX0 2 a.f__law_changes a.d__law_changes ["_law_h", "_law_most"] spChanges := by
  have G__law_next : FnOk P w K mg base CX0 1 a.f__law_next a.d__law_next ["_law_h", "_law_limit"] spNext := ok__law_next T
  refine T.F__law_changes.ok sc__law_changes (fun vs H Q E h => ?_) (fun cdv A outer s H vs Q E hr h => ?_)
  · obtain ⟨x, y, z, rfl, _⟩ := h
    rfl
  · obtain ⟨x, y, most, rfl, lh, m1, m2, k⟩ := h
    refine ⟨_, (pss_cons (ps_par (i := 2) (j := 3) (by rfl) sc__law_changes.nd rfl rfl (by decide) rfl rfl (pa_cons (pe_ix ix_list (pe_lst (pa_cons pe_int (pa_cons pe_int (pa_cons pe_int pa_nil)))) (pe_call G__law_next (hr.mono (by decide)) (by rfl) T.mg__law_next T.F__law_next.kp (b__law_next T) .nil pass0 (pa_cons (pv 0) (pa_cons pe_int pa_nil))) (fun _ _ => rfl)) (pa_cons (pe_lst pa_nil) pa_nil)) (by rfl))
      (pss_cons (ps_set (i := 4) sc__law_changes.nd rfl (Or.inl rfl) (pe_op op_sub (pe_op op_sub (pe_call G__law_next (hr.mono (by decide)) (by rfl) T.mg__law_next T.F__law_next.kp (b__law_next T) .nil pass0 (pa_cons (pv 0) (pa_cons (pe_op op_add (pe_op op_mul pe_int (pv 2)) pe_int) pa_nil))) (pv 2)) (pe_op op_fdiv (pv 2) pe_int)))
      (pss_cons (ps_for PassesOwn.never rfl (pi_range1 (by rfl) T.z_range (pa_cons (pe_op op_add pe_int (pe_call G__law_next (hr.mono (by decide)) (by rfl) T.mg__law_next T.F__law_next.kp (b__law_next T) .nil pass0 (pa_cons (pv 0) (pa_cons (pv 1) pa_nil)))) pa_nil)) (pg_name (i := 5) sc__law_changes.nd rfl (Or.inl rfl))
        (pss_one (ps_expr (pe_bm PySem.F.plainAttrs_list PySem.F.slot_list_append PySem.F.type_list_append mt_append (pv 3) (pa_cons (pe_op op_mul (pe_callB (call_max2 rfl) (by rfl) T.z_max (by decide +kernel) (pa_cons (pe_un un_neg pe_int) (pa_cons (pe_callB (call_min2 rfl) (by rfl) T.z_min (by decide +kernel) (pa_cons pe_int (pa_cons (pe_op op_add (pv 4) (pe_call G__law_next (hr.mono (by decide)) (by rfl) T.mg__law_next T.F__law_next.kp (b__law_next T) .nil pass0 (pa_cons (pv 0) (pa_cons (pe_op op_add (pv 2) pe_int) pa_nil)))) pa_nil))) pa_nil))) (pe_callTy call_int1 (by rfl) T.z_int (by decide +kernel) (pa_cons (pe_cmpR op_gt (pe_call G__law_next (hr.mono (by decide)) (by rfl) T.mg__law_next T.F__law_next.kp (b__law_next T) .nil pass0 (pa_cons (pv 0) (pa_cons pe_int pa_nil))) pe_int (nomark _)) pa_nil))) pa_nil)))))
      (pss_one (ps_ret (pe_callTy call_tuple_of (by rfl) T.z_tuple (by decide +kernel) (pa_cons (pv 3) pa_nil))))))), ?_⟩
    refine ⟨by show 3 ≤ sizeLine; decide, fun p hp => ⟨_, rfl, x, y, 3, rfl, lh.same (same_upd hp), by decide, by decide, fun r H2 r0 r1 lh2 k2 => ?_⟩⟩
    have op := lh.off hp
    have hp2 : H2 p = some (.lst [.int 3, .int 9, .int 100]) := k2 _ _ op.1 op.2 upd_same
    have kk : Keep x y H H2 := (Keep.of (same_upd hp)).trans k2
    obtain ⟨v, hv, hv2⟩ := three r0 r1 (V.int 3) (V.int 9) (V.int 100)
    obtain ⟨wd, rfl, w1, w2⟩ : ∃ wd : Int, v = .int wd ∧ 3 ≤ wd ∧ wd ≤ 100 := by
      rcases hv2 with rfl | rfl | rfl
      · exact ⟨3, rfl, by decide, by decide⟩
      · exact ⟨9, rfl, by decide, by decide⟩
      · exact ⟨100, rfl, by decide, by decide⟩
    refine ⟨p, _, _, _, rfl, rfl, SqL.of hp2, hv, Nat.zero_le _, fun q hq => ⟨_, _, rfl, ?_⟩⟩
    have oq := lh2.off hq
    have q0 : H q = none := kk.free lh2 hq
    refine ⟨_, rfl, _, rfl, _, _, rfl, rfl, .inl ⟨by decide, by decide⟩, _, _, rfl, rfl, x, y, _, rfl, lh2.same (same_upd hq), by omega, by omega, fun r2 H3 r20 r21 lh3 k3 => ?_⟩
    have hq3 : H3 q = some (.lst []) := k3 _ _ oq.1 oq.2 upd_same
    have kk3 : Keep x y H H3 := (kk.trans (Keep.of (same_upd hq))).trans k3
    refine ⟨_, rfl, _, _, rfl, rfl, _, rfl, _, _, rfl, rfl, ⟨by decide, by decide⟩, _, _, rfl, rfl, ?_⟩
    refine ⟨_, rfl, _, rfl, x, y, most, rfl, lh3, by omega, by omega, fun r4 H4 r40 r41 lh4 k4 => ⟨_, _, rfl, rfl, 1 + r4, rfl, by omega, by omega, ?_⟩⟩
    generalize hlow : r2 - wd - wd / 2 = low
    have hq4 : H4 q = some (.lst []) := k4 _ _ oq.1 oq.2 hq3
    refine for_range (lo := 0) (n := (1 + r4).toNat) (fun i σ H' => ∃ (cs : List Int) (v : Option V), σ = [some (.ref x), some (.int most), some (.int wd), some (.ref q), some (.int low), v] ∧ H' q = some (.lst (cs.map V.int)) ∧ cs.length = i ∧ (∀ c ∈ cs, -100 ≤ c ∧ c ≤ 100) ∧ LH H' x y ∧ Keep x y H H')
      ⟨[], none, (by rw [← hlow]; rfl), hq4, rfl, (by intro c hc; cases hc), lh4, kk3.trans k4⟩ ?_ ?_
    · rintro i σ H' hi ⟨cs, v, rfl, hq', hl, hb, lh', kk'⟩
      refine ⟨_, rfl, .inl ⟨rfl, _, SqL.of hq'⟩, _, rfl, _, rfl, _, rfl, _, rfl, _, _, rfl, rfl, x, y, _, rfl, lh', by omega, by omega, fun r5 H5 r50 r51 lh5 k5 => ?_⟩
      have hq5 := k5 _ _ oq.1 oq.2 hq'
      refine ⟨_, _, rfl, rfl, _, _, rfl, _, _, rfl, _, rfl, x, y, 5, rfl, lh5, by decide, by decide, fun r6 H6 r60 r61 lh6 k6 => ?_⟩
      have hq6 := k6 _ _ oq.1 oq.2 hq5
      refine ⟨_, _, rfl, rfl, .inr ⟨_, rfl, ?_⟩⟩
      generalize hm : (if (if low + r5 < 100 then low + r5 else 100) > -100 then (if low + r5 < 100 then low + r5 else 100) else -100) = mx
      have mb : -100 ≤ mx ∧ mx ≤ 100 := by
        subst hm
        split <;> split <;> omega
      refine ⟨_, _, rfl, rfl, .inl ⟨by omega, by omega⟩, q, _, _, rfl, rfl, hq6, by rw [List.length_map]; exact small1000 (by omega), ?_⟩
      generalize hc : mx * (if decide (0 < r6) = true then 1 else 0) = c
      have cb : -100 ≤ c ∧ c ≤ 100 := by
        subst hc
        split
        · rw [Int.mul_one]; exact mb
        · rw [Int.mul_zero]; omega
      refine ⟨cs ++ [c], _, rfl, by rw [upd_same, List.map_append, ← hc, ← hm]; rfl, by rw [List.length_append, List.length_singleton, hl], ?_, ?_, ?_⟩
      · intro z hz
        rcases List.mem_append.mp hz with hz | hz
        · exact hb z hz
        · obtain rfl := List.mem_singleton.mp hz
          exact cb
      · obtain ⟨m, j, cl, e1, e2, e3⟩ := lh6
        exact ⟨m, j, cl, by rw [upd_ne oq.1.symm]; exact e1, by rw [upd_ne oq.2.symm]; exact e2, e3⟩
      · intro b o h1 h2 h3
        rw [upd_ne (ne_of_none h3 q0)]
        exact k6 _ _ h1 h2 (k5 _ _ h1 h2 (kk' _ _ h1 h2 h3))
    · rintro σ H' ⟨cs, v, rfl, hq', hl, hb, lh', kk'⟩
      refine ⟨_, rfl, q, _, rfl, .inl ⟨SqL.of hq', fun z hz => ?_⟩⟩
      have oz := lh'.off hz
      refine k z cs _ ⟨by omega, by omega, hb⟩ (by omega) upd_same (kk'.free lh' hz) (lh'.same (same_upd hz)) (kk'.trans (Keep.of (same_upd hz)))
end
end W6

namespace W6
open PySem PySem.Spec PyProof.Rows L2
section
variable {P : Program} {w : World} {K : PySem.W.Frag} {mg : Str → Option Value} {base : Heap} {a : Ad}
theorem two {r : Int} (h0 : 0 ≤ r) (h1 : r < 2) (A B : V) : ∃ v, atI [A, B] r = some v ∧ (v = A ∨ v = B) := by
  rcases (show r = 0 ∨ r = 1 by omega) with rfl | rfl
  · exact ⟨A, rfl, .inl rfl⟩
  · exact ⟨B, rfl, .inr rfl⟩
theorem five {r : Int} (h0 : 0 ≤ r) (h1 : r < 5) (A B C D F : V) : ∃ v, atI [A, B, C, D, F] r = some v ∧ (v = A ∨ v = B ∨ v = C ∨ v = D ∨ v = F) := by
  rcases (show r = 0 ∨ r = 1 ∨ r = 2 ∨ r = 3 ∨ r = 4 by omega) with rfl | rfl | rfl | rfl | rfl
  · exact ⟨A, rfl, .inl rfl⟩
  · exact ⟨B, rfl, .inr (.inl rfl)⟩
  · exact ⟨C, rfl, .inr (.inr (.inl rfl))⟩
  · exact ⟨D, rfl, .inr (.inr (.inr (.inl rfl)))⟩
  · exact ⟨F, rfl, .inr (.inr (.inr (.inr rfl)))⟩
theorem ok__law_setting (T : Txt K mg a) : FnOk P w K mg base CX0 2 a.f__law_setting a.d__law_setting ["_law_h"] spSetting := by
  have G__law_next : FnOk P w K mg base CX0 1 a.f__law_next a.d__law_next ["_law_h", "_law_limit"] spNext := ok__law_next T
  refine T.F__law_setting.ok sc__law_setting (fun vs H Q E h => ?_) (fun cdv A outer s H vs Q E hr h => ?_)
  · obtain ⟨x, y, rfl, _⟩ := h
    rfl
  · obtain ⟨x, y, rfl, lh, k⟩ := h
    refine ⟨_, (pss_cons (ps_set (i := 1) sc__law_setting.nd rfl (Or.inl rfl) (pe_ix ix_list (pe_lst (pa_cons pe_int (pa_cons pe_int (pa_cons (pe_op op_pow pe_int pe_int) pa_nil)))) (pe_call G__law_next (hr.mono (by decide)) (by rfl) T.mg__law_next T.F__law_next.kp (b__law_next T) .nil pass0 (pa_cons (pv 0) (pa_cons pe_int pa_nil))) (fun _ _ => rfl)))
      (pss_cons (ps_set (i := 2) sc__law_setting.nd rfl (Or.inl rfl) (pe_op op_sub (pe_call G__law_next (hr.mono (by decide)) (by rfl) T.mg__law_next T.F__law_next.kp (b__law_next T) .nil pass0 (pa_cons (pv 0) (pa_cons (pv 1) pa_nil))) (pe_op op_fdiv (pv 1) pe_int)))
      (pss_cons (ps_set (i := 3) sc__law_setting.nd rfl (Or.inl rfl) (pe_op op_add (pv 2) (pe_call G__law_next (hr.mono (by decide)) (by rfl) T.mg__law_next T.F__law_next.kp (b__law_next T) .nil pass0 (pa_cons (pv 0) (pa_cons (pe_ix ix_list (pe_lst (pa_cons pe_int (pa_cons (pv 1) pa_nil))) (pe_call G__law_next (hr.mono (by decide)) (by rfl) T.mg__law_next T.F__law_next.kp (b__law_next T) .nil pass0 (pa_cons (pv 0) (pa_cons pe_int pa_nil))) (fun _ _ => rfl)) pa_nil)))))
      (pss_cons (ps_set (i := 4) sc__law_setting.nd rfl (Or.inl rfl) (pe_op op_sub (pe_op op_add (pv 2) (pe_call G__law_next (hr.mono (by decide)) (by rfl) T.mg__law_next T.F__law_next.kp (b__law_next T) .nil pass0 (pa_cons (pv 0) (pa_cons (pe_op op_mul pe_int (pv 1)) pa_nil)))) (pe_op op_fdiv (pv 1) pe_int)))
      (pss_cons (ps_set (i := 4) sc__law_setting.nd rfl (Or.inl rfl) (pe_ix ix_list (pe_lst (pa_cons (pv 4) (pa_cons (pv 2) (pa_cons (pv 3) (pa_cons (pe_op op_sub (pv 2) pe_int) (pa_cons (pe_op op_add (pv 3) pe_int) pa_nil)))))) (pe_callB (call_max2 rfl) (by rfl) T.z_max (by decide +kernel) (pa_cons pe_int (pa_cons (pe_op op_sub (pe_call G__law_next (hr.mono (by decide)) (by rfl) T.mg__law_next T.F__law_next.kp (b__law_next T) .nil pass0 (pa_cons (pv 0) (pa_cons pe_int pa_nil))) pe_int) pa_nil))) (fun _ _ => rfl)))
      (pss_one (ps_ret (pe_tup (pa_cons (pe_op op_add pe_int (pe_call G__law_next (hr.mono (by decide)) (by rfl) T.mg__law_next T.F__law_next.kp (b__law_next T) .nil pass0 (pa_cons (pv 0) (pa_cons (pe_ix ix_list (pe_lst (pa_cons pe_int (pa_cons pe_int pa_nil))) (pe_call G__law_next (hr.mono (by decide)) (by rfl) T.mg__law_next T.F__law_next.kp (b__law_next T) .nil pass0 (pa_cons (pv 0) (pa_cons pe_int pa_nil))) (fun _ _ => rfl)) pa_nil)))) (pa_cons (pv 2) (pa_cons (pv 3) (pa_cons (pv 4) (pa_cons (pe_cmpR op_eq (pe_call G__law_next (hr.mono (by decide)) (by rfl) T.mg__law_next T.F__law_next.kp (b__law_next T) .nil pass0 (pa_cons (pv 0) (pa_cons pe_int pa_nil))) pe_int (nomark _)) pa_nil))))))))))))), ?_⟩
    -- the width
    refine ⟨_, _, rfl, rfl, ⟨by decide, by decide, by decide⟩, by show 3 ≤ sizeLine; decide, fun p hp => ⟨_, rfl, x, y, 3, rfl, lh.same (same_upd hp), by decide, by decide, fun r H1 r0 r1 lh1 k1 => ?_⟩⟩
    have op := lh.off hp
    have p1 := k1 _ _ op.1 op.2 upd_same
    have kk1 : Keep x y H H1 := (Keep.of (same_upd hp)).trans k1
    obtain ⟨v, hv, hv2⟩ := three r0 r1 (V.int 5) (V.int 60) (V.int (10 ^ (11 : Int).toNat))
    obtain ⟨wd, rfl, w1, w2⟩ : ∃ wd : Int, v = .int wd ∧ 5 ≤ wd ∧ wd ≤ 100000000000 := by
      rcases hv2 with rfl | rfl | rfl
      · exact ⟨5, rfl, by decide, by decide⟩
      · exact ⟨60, rfl, by decide, by decide⟩
      · exact ⟨_, rfl, by decide, by decide⟩
    refine ⟨p, _, _, _, rfl, rfl, SqL.of p1, hv, ?_⟩
    -- low
    refine ⟨_, rfl, _, rfl, x, y, _, rfl, lh1, by omega, by omega, fun r2 H2 r20 r21 lh2 k2 => ⟨_, rfl, _, _, rfl, rfl, ⟨by decide, by decide⟩, _, _, rfl, rfl, ?_⟩⟩
    have kk2 := kk1.trans k2
    -- high
    refine ⟨_, rfl, _, rfl, _, rfl, by show 2 ≤ sizeLine; decide, fun p3 hp3 => ⟨_, rfl, x, y, 2, rfl, lh2.same (same_upd hp3), by decide, by decide, fun r3 H3 r30 r31 lh3 k3 => ?_⟩⟩
    have op3 := lh2.off hp3
    have q3 := k3 _ _ op3.1 op3.2 upd_same
    have kk3 := (kk2.trans (Keep.of (same_upd hp3))).trans k3
    obtain ⟨v3, hv3, hv32⟩ := two r30 r31 (V.int 4) (V.int wd)
    obtain ⟨w3, rfl, w31, w32⟩ : ∃ w3 : Int, v3 = .int w3 ∧ 4 ≤ w3 ∧ w3 ≤ 100000000000 := by
      rcases hv32 with rfl | rfl
      · exact ⟨4, rfl, by decide, by decide⟩
      · exact ⟨_, rfl, by omega, by omega⟩
    refine ⟨p3, _, _, _, rfl, rfl, SqL.of q3, hv3, x, y, _, rfl, lh3, by omega, by omega, fun r4 H4 r40 r41 lh4 k4 => ⟨_, _, rfl, rfl, ?_⟩⟩
    have kk4 := kk3.trans k4
    -- start
    refine ⟨_, rfl, _, rfl, _, rfl, _, _, rfl, rfl, .inl ⟨by decide, by decide⟩, x, y, _, rfl, lh4, by omega, by omega, fun r5 H5 r50 r51 lh5 k5 => ⟨_, _, rfl, rfl, _, rfl, _, _, rfl, rfl, ⟨by decide, by decide⟩, _, _, rfl, rfl, ?_⟩⟩
    have kk5 := kk4.trans k5
    refine ⟨_, rfl, _, rfl, _, rfl, _, rfl, _, _, rfl, rfl, _, rfl, _, _, rfl, rfl, by show 5 ≤ sizeLine; decide, fun p6 hp6 => ⟨_, rfl, x, y, 8, rfl, lh5.same (same_upd hp6), by decide, by decide, fun r6 H6 r60 r61 lh6 k6 => ?_⟩⟩
    have op6 := lh5.off hp6
    have q6 := k6 _ _ op6.1 op6.2 upd_same
    have kk6 := (kk5.trans (Keep.of (same_upd hp6))).trans k6
    have i0 : 0 ≤ (if r6 - 3 > 0 then r6 - 3 else 0) := by split <;> omega
    have i1 : (if r6 - 3 > 0 then r6 - 3 else 0) < 5 := by split <;> omega
    obtain ⟨v6, hv6, hv62⟩ := five i0 i1 (V.int (r2 - wd / 2 + r5 - wd / 2)) (V.int (r2 - wd / 2)) (V.int (r2 - wd / 2 + r4)) (V.int (r2 - wd / 2 - 1)) (V.int (r2 - wd / 2 + r4 + 1))
    obtain ⟨st, rfl, s1, s2, s3, s4⟩ : ∃ st : Int, v6 = .int st ∧ -1000000000000 ≤ st ∧ st ≤ 1000000000000 ∧ r2 - wd / 2 - 200000000000 ≤ st ∧ st ≤ r2 - wd / 2 + 300000000000 := by
      rcases hv62 with rfl | rfl | rfl | rfl | rfl
      · exact ⟨_, rfl, by omega, by omega, by omega, by omega⟩
      · exact ⟨_, rfl, by omega, by omega, by omega, by omega⟩
      · exact ⟨_, rfl, by omega, by omega, by omega, by omega⟩
      · exact ⟨_, rfl, by omega, by omega, by omega, by omega⟩
      · exact ⟨_, rfl, by omega, by omega, by omega, by omega⟩
    refine ⟨_, _, rfl, rfl, _, _, rfl, p6, _, _, _, rfl, rfl, SqL.of q6, hv6, ?_⟩
    -- the tuple
    refine ⟨_, rfl, by show 2 ≤ sizeLine; decide, fun p7 hp7 => ⟨_, rfl, x, y, 2, rfl, lh6.same (same_upd hp7), by decide, by decide, fun r7 H7 r70 r71 lh7 k7 => ?_⟩⟩
    have op7 := lh6.off hp7
    have q7 := k7 _ _ op7.1 op7.2 upd_same
    have kk7 := (kk6.trans (Keep.of (same_upd hp7))).trans k7
    obtain ⟨v7, hv7, hv72⟩ := two r70 r71 (V.int 6) (V.int 200)
    obtain ⟨w7, rfl, w71, w72⟩ : ∃ w7 : Int, v7 = .int w7 ∧ 6 ≤ w7 ∧ w7 ≤ 200 := by
      rcases hv72 with rfl | rfl
      · exact ⟨6, rfl, by decide, by decide⟩
      · exact ⟨200, rfl, by decide, by decide⟩
    refine ⟨p7, _, _, _, rfl, rfl, SqL.of q7, hv7, x, y, _, rfl, lh7, by omega, by omega, fun r8 H8 r80 r81 lh8 k8 => ⟨_, _, rfl, rfl, _, rfl, _, rfl, _, rfl, _, rfl, x, y, 2, rfl, lh8, by decide, by decide, fun r9 H9 r90 r91 lh9 k9 => ?_⟩⟩
    refine ⟨rfl, by show 5 ≤ sizeLine; decide, fun pz hpz => ?_⟩
    have kk9 := (kk7.trans k8).trans k9
    exact k pz _ _ _ st _ _ (by omega) (by omega) (by omega) (by omega) (by omega) s1 s2 (by omega) s3 s4 upd_same (kk9.free lh9 hpz) (lh9.same (same_upd hpz)) (kk9.trans (Keep.of (same_upd hpz)))
end
end W6

namespace W6
open PySem PySem.Spec PyProof.Rows L2 Ru StX
section
variable {P : Program} {w : World} {K : PySem.W.Frag} {mg : Str → Option Value} {base : Heap} {a : Ad}
theorem ok_check_gain (T : Txt K mg a) : FnOk P w K mg base CX0 1 a.f_check_gain a.d_check_gain ["gain"] spGain := by
  refine T.F_check_gain.ok sc_check_gain (fun vs H Q E h => ?_) (fun cdv A outer s H vs Q E hr h => ?_)
  · obtain ⟨g, rfl, _⟩ := h
    rfl
  · obtain ⟨g, rfl, g1, g2, k⟩ := h
    refine ⟨_, (pss_one (ps_if (pt_not (pt_chain op_le op_le pe_int (pv 0) (pe_glob (v := .int 200) rfl T.mg_MOST_GAIN.choose_spec ⟨_, rfl⟩))) (pss_one (ps_never)) pss_nil)), ?_⟩
    refine ⟨_, rfl, _, _, rfl, rfl, _, rfl, ?_⟩
    rw [if_pos (decide_eq_true g1)]
    refine ⟨_, _, rfl, rfl, _, rfl, ?_⟩
    show (if (!decide (g ≤ 200)) = true then _ else _)
    rw [decide_eq_true g2]
    exact iteF k
theorem ok_check_number (T : Txt K mg a) : FnOk P w K mg base CX0 1 a.f_check_number a.d_check_number ["number", "least", "greatest"] spNum := by
  refine T.F_check_number.ok sc_check_number (fun vs H Q E h => ?_) (fun cdv A outer s H vs Q E hr h => ?_)
  · obtain ⟨n, l, u, rfl, _⟩ := h
    rfl
  · obtain ⟨n, l, u, rfl, g1, g2, k⟩ := h
    refine ⟨_, (pss_one (ps_if (pt_not (pt_chain op_le op_le (pv 1) (pv 0) (pv 2))) (pss_one (ps_never)) pss_nil)), ?_⟩
    refine ⟨_, rfl, _, rfl, _, _, rfl, rfl, _, rfl, ?_⟩
    rw [if_pos (decide_eq_true g1)]
    refine ⟨_, rfl, _, _, rfl, rfl, _, rfl, ?_⟩
    show (if (!decide (n ≤ u)) = true then _ else _)
    rw [decide_eq_true g2]
    exact iteF k
theorem ok_first_invalid (T : Txt K mg a) : FnOk P w K mg base CX0 1 a.f_first_invalid a.d_first_invalid ["values", "least", "greatest", "most"] spFi := by
  refine T.F_first_invalid.ok sc_first_invalid (fun vs H Q E h => ?_) (fun cdv A outer s H vs Q E hr h => ?_)
  · obtain ⟨t, cs, lo, hi, most, rfl, _⟩ := h
    rfl
  · obtain ⟨t, cs, lo, hi, most, rfl, ht, k1, k2, k3⟩ := h
    refine ⟨_, (pss_cons (ps_for PassesOwn.never rfl (pi_enumT (by rfl) T.z_enumerate (pa_cons (pv 0) pa_nil)) (pg_tup rfl (pgs_cons (pg_name (i := 4) sc_first_invalid.nd rfl (Or.inl rfl)) (pgs_cons (pg_name (i := 5) sc_first_invalid.nd rfl (Or.inl rfl)) pgs_nil)))
        (pss_one (ps_if (PW.pt (pw_or (pt_cmpR op_ge (pv 4) (pv 3) (nomark _)) (pw_or1 (pt_not (pt_chain op_le op_le (pv 1) (pv 5) (pv 2)))))) (pss_one (ps_ret (pv 4))) pss_nil)))
      (pss_one (ps_ret (pe_ifExp (pt_cmpR op_eq (pe_callB call_len_seq (by rfl) T.z_len PySem.boot_len (pa_cons (pv 0) pa_nil)) pe_int (nomark _)) pe_int pe_non)))), ?_⟩
    refine ⟨_, rfl, t, cs.map V.int, rfl, SqT.of ht, for_enumT (fun i σ H' => (∃ u v : Option V, σ = [some (.ref t), some (.int lo), some (.int hi), some (.int most), u, v] ∧ Same H H') ∧ ∀ (j : Nat) (d : Int), j < i → cs[j]? = some d → (j : Int) < most ∧ lo ≤ d ∧ d ≤ hi) ⟨⟨none, none, rfl, Same.refl _⟩, fun j d hj => absurd hj (Nat.not_lt_zero _)⟩ (fun i σ H' ⟨⟨_, _, _, s⟩, _⟩ => SqT.of (s _ _ ht)) ?_ ?_⟩
    · rintro i v σ H' tt hi' ⟨⟨u1, u2, rfl, sm⟩, ok⟩ htt
      obtain ⟨c, hc, rfl⟩ : ∃ c, cs[i]? = some c ∧ v = V.int c := by
        rw [List.getElem?_map] at hi'
        cases e : cs[i]? with
        | none => rw [e] at hi'; cases hi'
        | some c => rw [e] at hi'; exact ⟨c, rfl, (Option.some.inj hi').symm⟩
      have sm2 : Same H (upd H' tt (.tup [.int (i : Nat), .int c])) := sm.trans (same_upd htt)
      refine ⟨tt, _, rfl, SqT.of upd_same, rfl, _, _, rfl, _, _, rfl, rfl, ?_⟩
      refine ⟨_, rfl, _, rfl, _, _, rfl, rfl, _, rfl, ?_⟩
      by_cases c1 : most ≤ (i : Int)
      · refine ifT (dT c1) ⟨_, rfl, ?_⟩
        exact k2 _ i c sm2 hc (fun q => by omega) ok
      · refine ifF (dF c1) ⟨_, rfl, _, rfl, _, _, rfl, rfl, _, rfl, ?_⟩
        by_cases c2 : lo ≤ c
        · refine ifT (dT c2) ⟨_, rfl, _, _, rfl, rfl, _, rfl, ?_⟩
          by_cases c3 : c ≤ hi
          · refine ifF (nF c3) ?_
            refine ⟨⟨_, _, rfl, sm2⟩, fun j d hj e => ?_⟩
            by_cases q : j < i
            · exact ok j d q e
            · obtain rfl : j = i := by omega
              rw [hc] at e; cases e
              exact ⟨by omega, c2, c3⟩
          · refine ifT (nT c3) ⟨_, rfl, ?_⟩
            exact k2 _ i c sm2 hc (fun q => c3 q.2.2) ok
        · refine ifF (dF c2) ⟨_, rfl, ?_⟩
          refine ifT rfl ⟨_, rfl, ?_⟩
          exact k2 _ i c sm2 hc (fun q => c2 q.2.1) ok
    · rintro σ H' ⟨⟨u1, u2, rfl, sm⟩, ok⟩
      refine ⟨_, rfl, t, _, rfl, .inr (SqT.of (sm _ _ ht)), rfl, _, rfl, ?_⟩
      by_cases e0 : cs = []
      · subst e0
        exact ifT rfl (k3 _ sm rfl)
      · refine ifF (dF (by intro q; injection q with q; rw [List.length_map] at q; exact e0 (List.eq_nil_of_length_eq_zero (by omega)))) ?_
        refine k1 _ sm e0 fun i c hc => ok i c ?_ hc
        rw [List.length_map]
        exact (List.getElem?_eq_some_iff.mp hc).1
/-- Weather(..) -/
theorem ok_Weather_init (T : Txt K mg a) : FnR P w K mg base CX0 2 a.f_Weather_init (spWs a) := by
  have G_first_invalid : FnOk P w K mg base CX0 1 a.f_first_invalid a.d_first_invalid ["values", "least", "greatest", "most"] spFi := ok_first_invalid T
  obtain ⟨oc, od, kV, doc, pm, an, cdv, ct, osl, e, lk, hcd⟩ := T.F_Weather_init.ex
  rw [e] at lk
  refine fn_star (ps := ["self"]) (pv := "changes") (sp := spWi a) lk hcd sc_Weather_init cxUp_none (bind_star1 (B := fun us => bindArgs (PySem.W.fnOf "__init__" "Weather.__init__" (defArgs s_Weather_init) (defBody s_Weather_init) (defScope s_Weather_init) .none kV doc pm an cdv ct) ⟨us, []⟩) (fun _ => rfl) (fun _ _ _ => rfl)) (fun A outer s H vs Q E hr h => ?_)
  obtain ⟨x, dx, p, cs, rfl, hx, hp, ⟨c1, c2, c3⟩, k⟩ := h
  obtain ⟨tt, cvT⟩ := T.cv_Weather_MAX_TICKS
  obtain ⟨tc, cvC⟩ := T.cv_Weather_MAX_CHANGE
  have npx : p ≠ x := ne_of hp hx (fun z => nomatch z)
  refine ⟨_, PSs.nox ((pss_cons (ps_set (i := 2) sc_Weather_init.nd rfl (Or.inl rfl) (pe_call G_first_invalid (hr.mono (by decide)) (by rfl) T.mg_first_invalid T.F_first_invalid.kp (b_first_invalid T) .nil pass0 (pa_cons (pv 1) (pa_cons (pe_un un_neg (pe_con (pv 0) rfl)) (pa_cons (pe_con (pv 0) rfl) (pa_cons (pe_con (pv 0) rfl) pa_nil))))))
      (pss_cons (ps_if (pt_cmpR op_notN (pv 2) pe_non (nomark _)) (pss_one (ps_never)) pss_nil)
      (pss_one (ps_fld (pv 0) (pv 1) rfl))))), ?_⟩
  refine ⟨_, rfl, _, rfl, x, _, dx, _, _, _, rfl, hx, T.cl_Weather, cvC, rfl, _, rfl, _, rfl, x, _, dx, _, _, _, rfl, hx, T.cl_Weather, cvC, rfl, _, rfl, x, _, dx, _, _, _, rfl, hx, T.cl_Weather, cvT, rfl, p, cs, _, _, _, rfl, hp, fun H' sm _ _ => ?_, fun H' i c sm hc bad _ => ?_, fun H' _ e0 => ?_⟩
  · refine ⟨_, rfl, rfl, _, rfl, ?_⟩
    refine ifF rfl ?_
    refine ⟨_, rfl, _, rfl, x, _, dx, _, rfl, sm _ _ hx, T.cl_Weather, T.na_Weather__changes, by show 0 < 1000; decide, ?_⟩
    exact k _ ((Fr1.of sm).trans Fr1.upd) ⟨dx, p, by rw [upd_same]; rfl, by rw [upd_ne npx]; exact sm _ _ hp⟩
  · have := c3 c (List.mem_of_getElem? hc)
    have := (List.getElem?_eq_some_iff.mp hc).1
    exact absurd ⟨by omega, by omega, by omega⟩ bad
  · rw [e0] at c1
    exact absurd c1 (by decide)
/-- what the making of a weather asks -/
theorem weather_made {H : Hp} {Q : VK} {E : XK} {cs : List Int} (c : CH cs) (k : ∀ z H', Same H H' → WAt a H' z cs → Q (.ref z) H') : ∀ x dx, H x = none → H dx = none → dx ≠ x → spWs a (V.ref x :: cs.map V.int) (upd (upd H dx (.own x)) x (.ins a.c_Weather dx [])) (fun v H2 => v = .non ∧ Q (.ref x) H2) E := fun x dx nx nd ne =>
  ⟨[.ref x], cs.map V.int, rfl, rfl, by rw [List.length_map]; exact Nat.le_of_lt (small1000 (by have := c.2.1; omega)), fun p hp => by
    have npx : x ≠ p := ne_of_none upd_same hp
    have s1 := same_upd (o := .tup (cs.map V.int)) hp
    exact ⟨x, dx, p, cs, rfl, s1 _ _ upd_same, upd_same, c, fun H' fr wt => ⟨rfl, k x H' (Fr1.made nx nd ((Fr1.of s1).trans fr)) wt⟩⟩⟩
end
end W6

namespace W6
open PySem PySem.Spec PyProof.Rows L2 Ru StX LamX
/-- where the errors' classes stand -/
structure Er where
  c : Fin 5 → Addr
  cW : Addr
  fI : Addr
def erName : Fin 5 → Str
  | 0 => "contradiction"
  | 1 => "heater"
  | 2 => "number"
  | 3 => "weather"
  | 4 => "other weather"
/-- what the written part says of the errors -/
structure ErT (P : Program) (K : PySem.W.Frag) (mg : Str → Option Value) (er : Er) : Prop where
  g_WarmthError : mg "WarmthError" = some (.ref er.cW)
  g_Contradiction : mg "Contradiction" = some (.ref (er.c 0))
  g_InvalidHeater : mg "InvalidHeater" = some (.ref (er.c 1))
  g_InvalidNumber : mg "InvalidNumber" = some (.ref (er.c 2))
  g_InvalidWeather : mg "InvalidWeather" = some (.ref (er.c 3))
  g_OtherWeather : mg "OtherWeather" = some (.ref (er.c 4))
  z_ValueError : mg "ValueError" = none
  ix : PySem.IxX.IxTxt P K mg "InvalidWeather" (er.c 3) er.fI
  ex : ∀ j, ExcC K (er.c j)
  kit : ∀ i j, PySem.W.kitOne K (.ref (er.c j)) (.ref (er.c i)) = some (decide (i = j))
  kitV : ∀ j, PySem.W.kitOne K (.ref (er.c j)) (.type "ValueError") = some true
  exm : ∀ j, PySem.W.exmOne K (.ref (er.c j)) (.ref er.cW) = some true
/-- what an error is told as -/
def ErOf (er : Er) (cls : Value) (d : Option Addr) (H : Hp) (xs : List V) : Prop :=
  ∃ j : Fin 5, cls = .ref (er.c j) ∧ ((j = 3 ∧ ∃ (dd : Addr) (i : Int), d = some dd ∧ H dd = some (.xd [(("index" : Str), .int i)]) ∧ xs = [.str "weather", .int i]) ∨ (j ≠ 3 ∧ d = none ∧ xs = [.str (erName j)]))
def qNone (Q : VK) : VK := fun _ H1 => [V.str "none"].length ≤ sizeLine ∧ ∀ p, H1 p = none → Q (.ref p) (upd H1 p (.tup [.str "none"]))
/-- told: the error's tuple, or ("none",) -/
def TTe (er : Er) : (XK → Hp → VK → Prop) → Hp → VK → Prop := fun tl H Q =>
  tl (fun cls d H' => ∃ xs, ErOf er cls d H' xs ∧ ∀ p H'', Same H' H'' → H'' p = some (.tup xs) → Q (.ref p) H'') H (qNone Q)
/-- the suite's reading -/
def tErr (K : PySem.W.Frag) (er : Er) (ea : Addr) (cls : Value) (d : Option Addr) : TS :=
  tSeq (tAsg (tLst (tCons (tCB (rIsX K ea cls d) (tCons (tVar 1) (tCons (tC (.ref (er.c 0))) tNil))) (tCons (tCB (rIsX K ea cls d) (tCons (tVar 1) (tCons (tC (.ref (er.c 1))) tNil))) (tCons (tCB (rIsX K ea cls d) (tCons (tVar 1) (tCons (tC (.ref (er.c 2))) tNil))) tNil)))) (gName 2))
  (tSeq (tDrop (tBM K "list" rExtend (tVar 2) (tCons (tLst (tCons (tCB (rIsX K ea cls d) (tCons (tVar 1) (tCons (tC (.ref (er.c 3))) tNil))) (tCons (tCB (rIsX K ea cls d) (tCons (tVar 1) (tCons (tC (.ref (er.c 4))) tNil))) tNil))) tNil)))
  (tSeq (tIfS (tOr (tTest (tOp rNe (tBM K "list" (rCntF K) (tVar 2) (tCons (tC (.bl true)) tNil)) (tC (.int 1)))) (tNot (tB (tCB (rIsX K ea cls d) (tCons (tVar 1) (tCons (tC (.ty "ValueError")) tNil)))))) (tRet (tTup (tCons (tC (.str "other")) tNil))) tNext)
  (tSeq (tAsg (tOp (rIxL K) (tLst (tCons (tC (.str "contradiction")) (tCons (tC (.str "heater")) (tCons (tC (.str "number")) (tCons (tC (.str "weather")) (tCons (tC (.str "other weather")) tNil)))))) (tBM K "list" (rIndex K) (tVar 2) (tCons (tC (.bl true)) tNil))) (gName 3))
  (tRet (tIf (tTest (tOp rEq (tVar 3) (tC (.str "weather")))) (tTup (tCons (tVar 3) (tCons (tByIx (er.c 3) ea cls d (tVar 1)) tNil))) (tTup (tCons (tVar 3) tNil)))))))
theorem kinds_count (j : Fin 5) : ([.bl (decide ((0 : Fin 5) = j)), .bl (decide ((1 : Fin 5) = j)), .bl (decide ((2 : Fin 5) = j)), .bl (decide ((3 : Fin 5) = j)), .bl (decide ((4 : Fin 5) = j))] : List V).countP (fun z => eqV z (.bl true)) = 1 := by
  revert j; decide
def kindsL (j : Fin 5) : List V := [.bl (decide ((0 : Fin 5) = j)), .bl (decide ((1 : Fin 5) = j)), .bl (decide ((2 : Fin 5) = j)), .bl (decide ((3 : Fin 5) = j)), .bl (decide ((4 : Fin 5) = j))]
theorem kinds_at (j : Fin 5) : (kindsL j)[j.val]? = some (.bl true) := by
  revert j; decide
theorem kinds_no (j : Fin 5) (m : Nat) (z : V) (hm : m < j.val) (hz : (kindsL j)[m]? = some z) : eqV z (.bl true) = false := by
  have k : ∀ j m : Fin 5, m.val < j.val → eqV ((kindsL j)[m.val]?.getD .non) (.bl true) = false := by decide
  have h := k j ⟨m, by have := j.isLt; omega⟩ hm
  rw [hz] at h
  exact h
theorem names_at (j : Fin 5) : ([.str "contradiction", .str "heater", .str "number", .str "weather", .str "other weather"] : List V)[j.val]? = some (.str (erName j)) := by
  rcases j with ⟨j, hj⟩
  match j, hj with
  | 0, _ => rfl
  | 1, _ => rfl
  | 2, _ => rfl
  | 3, _ => rfl
  | 4, _ => rfl
section
variable {X : Cx} {a : Ad} {er : Er}
theorem gives_error {q : Str} {g : Addr} {cdg : Value} (T : Txt X.K X.mg a) (ER : ErT X.prog X.K X.mg er) : Gives X ["_law_call", "e", "_law_kinds", "_law_name"] "_law_error" (defScope s__law_error) g cdg (defBody s__law_error) "_law_call" q (TTe er) := by
  intro f c' s H Q tl hr act hc h
  have isX : ∀ (ea : Addr) (oe : Obj) (cls : Value) (d : Option Addr) (pn : List (Addr × Obj)), Zc cls d oe → (∃ vs, oe.data = .fields vs) →
      CallR ((cxOf C8.CX0 X.prog X.w X.K X.mg X.base ["_law_call", "e", "_law_kinds", "_law_name"] "_law_error" (defScope s__law_error) g cdg X.A X.stack s H C8.E0).nox.suite ea ((ea, oe) :: pn)) (.builtin "isinstance") (rIsX X.K ea cls d) := fun _ _ _ _ _ hz hf => call_isX hz hf
  have byX : ∀ (ea : Addr) (oe : Obj) (cls : Value) (d : Option Addr) (pn : List (Addr × Obj)) (e : Expr) (te : TE) (pos : Pos), Zc cls d oe → (∃ vs, oe.data = .fields vs) →
      PE ((cxOf C8.CX0 X.prog X.w X.K X.mg X.base ["_law_call", "e", "_law_kinds", "_law_name"] "_law_error" (defScope s__law_error) g cdg X.A X.stack s H C8.E0).nox.suite ea ((ea, oe) :: pn)) e te →
      attributeBase e "index" (cxOf C8.CX0 X.prog X.w X.K X.mg X.base ["_law_call", "e", "_law_kinds", "_law_name"] "_law_error" (defScope s__law_error) g cdg X.A X.stack s H C8.E0).env (eval e (cxOf C8.CX0 X.prog X.w X.K X.mg X.base ["_law_call", "e", "_law_kinds", "_law_name"] "_law_error" (defScope s__law_error) g cdg X.A X.stack s H C8.E0).env) = eval e (cxOf C8.CX0 X.prog X.w X.K X.mg X.base ["_law_call", "e", "_law_kinds", "_law_name"] "_law_error" (defScope s__law_error) g cdg X.A X.stack s H C8.E0).env →
      PE ((cxOf C8.CX0 X.prog X.w X.K X.mg X.base ["_law_call", "e", "_law_kinds", "_law_name"] "_law_error" (defScope s__law_error) g cdg X.A X.stack s H C8.E0).nox.suite ea ((ea, oe) :: pn)) (.Attribute e "index" pos) (tByIx (er.c 3) ea cls d te) := fun _ _ _ _ _ _ _ _ hz hf he hb => pe_byIx (X := (cxOf C8.CX0 X.prog X.w X.K X.mg X.base ["_law_call", "e", "_law_kinds", "_law_name"] "_law_error" (defScope s__law_error) g cdg X.A X.stack s H C8.E0).nox) ER.ix hz hf he hb
  refine ⟨_, PSs.nox ((pss_cons (ps_try_as (i := 1) (ts := tErr X.K er) rfl rfl sc__law_error.nd rfl rfl ⟨rfl, by decide, .inl ER.g_WarmthError⟩ L2.takes0 (by exact fun W pn xe tk _ =>
      (pss_one (ps_expr (act W pn xe _ _ tk)))) (by exact fun ea oe cls d pn hz hf =>
      (pss_cons (ps_set (i := 2) sc__law_error.nd rfl (Or.inl rfl) (pe_lst (pa_cons (pe_callB (isX ea oe cls d pn hz hf) (by rfl) T.z_isinstance (by decide +kernel) (pa_cons (pv 1) (pa_cons (pe_glob (v := .ref (er.c 0)) (by rfl) ER.g_Contradiction rfl) pa_nil))) (pa_cons (pe_callB (isX ea oe cls d pn hz hf) (by rfl) T.z_isinstance (by decide +kernel) (pa_cons (pv 1) (pa_cons (pe_glob (v := .ref (er.c 1)) (by rfl) ER.g_InvalidHeater rfl) pa_nil))) (pa_cons (pe_callB (isX ea oe cls d pn hz hf) (by rfl) T.z_isinstance (by decide +kernel) (pa_cons (pv 1) (pa_cons (pe_glob (v := .ref (er.c 2)) (by rfl) ER.g_InvalidNumber rfl) pa_nil))) pa_nil)))))
      (pss_cons (ps_expr (pe_bm PySem.F.plainAttrs_list PySem.F.slot_list_extend PySem.F.type_list_extend mt_extend (pv 2) (pa_cons (pe_lst (pa_cons (pe_callB (isX ea oe cls d pn hz hf) (by rfl) T.z_isinstance (by decide +kernel) (pa_cons (pv 1) (pa_cons (pe_glob (v := .ref (er.c 3)) (by rfl) ER.g_InvalidWeather rfl) pa_nil))) (pa_cons (pe_callB (isX ea oe cls d pn hz hf) (by rfl) T.z_isinstance (by decide +kernel) (pa_cons (pv 1) (pa_cons (pe_glob (v := .ref (er.c 4)) (by rfl) ER.g_OtherWeather rfl) pa_nil))) pa_nil))) pa_nil)))
      (pss_cons (ps_if (PW.pt (pw_or (pt_cmpR op_ne (pe_bm PySem.F.plainAttrs_list PySem.F.slot_list_count PySem.F.type_list_count mt_countF (pv 2) (pa_cons pe_bl pa_nil)) pe_int (nomark _)) (pw_or1 (pt_not (pt_val (pe_callB (isX ea oe cls d pn hz hf) (by rfl) T.z_isinstance (by decide +kernel) (pa_cons (pv 1) (pa_cons (pe_bltn (v := .ty "ValueError") (by rfl) ER.z_ValueError (by decide +kernel) rfl) pa_nil)))))))) (pss_one (ps_ret (pe_tup (pa_cons pe_str pa_nil)))) pss_nil)
      (pss_cons (ps_set (i := 3) sc__law_error.nd rfl (Or.inl rfl) (pe_ix ix_list (pe_lst (pa_cons pe_str (pa_cons pe_str (pa_cons pe_str (pa_cons pe_str (pa_cons pe_str pa_nil)))))) (pe_bm PySem.F.plainAttrs_list PySem.F.slot_list_index PySem.F.type_list_index mt_index (pv 2) (pa_cons pe_bl pa_nil)) (fun _ _ => rfl)))
      (pss_one (ps_ret (pe_ifExp (pt_cmpR op_eq (pv 3) pe_str (nomark _)) (pe_tup (pa_cons (pv 3) (pa_cons (byX ea oe cls d pn _ _ _ hz hf (pv 1) rfl) pa_nil))) (pe_tup (pa_cons (pv 3) pa_nil)))))))))))
      (pss_one (ps_ret (pe_tup (pa_cons pe_str pa_nil)))))), ?_⟩
  refine ⟨rfl, hc, _, ?_, h⟩
  rintro cls d H' ⟨xs, ⟨j, rfl, hj⟩, go⟩
  refine ⟨true, ER.exm j, fun _ ea he => ?_, fun z => nomatch z⟩
  have hD : ∀ H2, Same H' H2 → DictAt d H2 := fun H2 sm => by
    rcases hj with ⟨_, dd, i, rfl, hx, _⟩ | ⟨_, rfl, _⟩
    · exact .inr ⟨dd, _, rfl, sm _ _ hx⟩
    · exact .inl rfl
  have c0 := hD _ (Same.refl _)
  refine ⟨_, rfl, er.c j, _, _, _, rfl, ER.ex j, c0, rfl, fun u e => e, ER.kit 0 j, _, rfl, er.c j, _, _, _, rfl, ER.ex j, c0, rfl, fun u e => e, ER.kit 1 j, _, rfl, er.c j, _, _, _, rfl, ER.ex j, c0, rfl, fun u e => e, ER.kit 2 j, by show 3 ≤ sizeLine; decide, fun l hl => ?_⟩
  have s1 : Same H' (upd H' l (.lst [.bl (decide ((0 : Fin 5) = j)), .bl (decide ((1 : Fin 5) = j)), .bl (decide ((2 : Fin 5) = j))])) := same_upd hl
  generalize hH1 : upd H' l _ = H1 at s1 ⊢
  have hl1 : H1 l = some (.lst [.bl (decide ((0 : Fin 5) = j)), .bl (decide ((1 : Fin 5) = j)), .bl (decide ((2 : Fin 5) = j))]) := by rw [← hH1]; exact upd_same
  have c1 := hD _ s1
  refine ⟨_, rfl, .inl ⟨rfl, _, SqL.of hl1⟩, _, rfl, er.c j, _, _, _, rfl, ER.ex j, c1, rfl, fun u e => e, ER.kit 3 j, _, rfl, er.c j, _, _, _, rfl, ER.ex j, c1, rfl, fun u e => e, ER.kit 4 j, by show 2 ≤ sizeLine; decide, fun m hm => ?_⟩
  have nlm : l ≠ m := ne_of_none hl1 hm
  refine ⟨l, m, _, _, rfl, rfl, by rw [upd_ne nlm]; exact hl1, upd_same, by show 3 + 2 ≤ sizeLine; decide, ?_⟩
  have nl : H' l = none := hl
  have s2 : Same H' (upd (upd H1 m (.lst [.bl (decide ((3 : Fin 5) = j)), .bl (decide ((4 : Fin 5) = j))])) l (.lst ([.bl (decide ((0 : Fin 5) = j)), .bl (decide ((1 : Fin 5) = j)), .bl (decide ((2 : Fin 5) = j))] ++ [.bl (decide ((3 : Fin 5) = j)), .bl (decide ((4 : Fin 5) = j))]))) := fun b o e => by
    rw [upd_ne (ne_of_none e nl), upd_ne (ne_of_none (s1 _ _ e) hm)]
    exact s1 _ _ e
  generalize hH2 : upd (upd H1 m _) l _ = H2 at s2 ⊢
  have hl2 : H2 l = some (.lst [.bl (decide ((0 : Fin 5) = j)), .bl (decide ((1 : Fin 5) = j)), .bl (decide ((2 : Fin 5) = j)), .bl (decide ((3 : Fin 5) = j)), .bl (decide ((4 : Fin 5) = j))]) := by rw [← hH2]; exact upd_same
  have c2 := hD _ s2
  refine ⟨_, rfl, .inl ⟨rfl, _, SqL.of hl2⟩, l, _, _, rfl, rfl, SqL.of hl2, rfl, rfl, rfl, _, rfl, ?_⟩
  rw [kinds_count j]
  refine ifF rfl ?_
  refine ⟨_, rfl, er.c j, _, _, _, rfl, ER.ex j, c2, rfl, fun u e => e, ER.kitV j, _, rfl, ?_⟩
  refine ifF rfl ?_
  refine ⟨by show 5 ≤ sizeLine; decide, fun n hn => ⟨_, rfl, .inl ⟨rfl, _, SqL.of (same_upd hn _ _ hl2)⟩, l, _, _, j.val, _, rfl, rfl, SqL.of (same_upd hn _ _ hl2), rfl, rfl, kinds_at j, rfl, kinds_no j, n, _, _, .str (erName j), rfl, rfl, SqL.of upd_same, at_int (Int.natCast_nonneg _) (names_at j), _, rfl, rfl, _, rfl, ?_⟩⟩
  have s3 : Same H' (upd H2 n (.lst [.str "contradiction", .str "heater", .str "number", .str "weather", .str "other weather"])) := s2.trans (same_upd hn)
  generalize hH3 : upd H2 n _ = H3 at s3 ⊢
  rcases hj with ⟨rfl, dd, i, rfl, hx, rfl⟩ | ⟨nj, rfl, rfl⟩
  · refine ifT rfl ?_
    refine ⟨_, rfl, _, rfl, rfl, rfl, dd, _, rfl, s3 _ _ hx, by show 2 ≤ sizeLine; decide, fun p hp => ?_⟩
    exact go p _ (s3.trans (same_upd hp)) upd_same
  · have e : decide (V.str (erName j) = V.str "weather") = false := by
      have k : ∀ j : Fin 5, j ≠ 3 → decide (V.str (erName j) = V.str "weather") = false := by decide
      exact k j nj
    refine ifF e ?_
    refine ⟨_, rfl, by show 1 ≤ sizeLine; decide, fun p hp => ?_⟩
    exact go p _ (s3.trans (same_upd hp)) upd_same
end
end W6

namespace W6
open PySem PySem.Spec PyProof.Rows L2 Ru StX
section
variable {P : Program} {w : World} {K : PySem.W.Frag} {mg : Str → Option Value} {base : Heap} {a : Ad}
theorem ok__law_weather (T : Txt K mg a) : FnOk P w K mg base CX0 4 a.f__law_weather a.d__law_weather ["_law_changes_here"] (spWeather a) := by
  have G_Weather_init : FnR P w K mg base CX0 2 a.f_Weather_init (spWs a) := ok_Weather_init T
  refine T.F__law_weather.ok sc__law_weather (fun vs H Q E h => ?_) (fun cdv A outer s H vs Q E hr h => ?_)
  · obtain ⟨t, cs, rfl, _⟩ := h
    rfl
  · obtain ⟨t, cs, rfl, ht, c, c6, k⟩ := h
    refine ⟨_, (pss_cons (ps_set (i := 1) sc__law_weather.nd rfl (Or.inl rfl) (pe_op op_cat (pe_callTy call_list_of (by rfl) T.z_list (by decide +kernel) (pa_cons (pv 0) pa_nil)) (pe_op op_rep (pe_lst (pa_cons pe_int pa_nil)) pe_int)))
      (pss_cons (ps_if (pt_cmpR op_lt (pe_callB call_len_seq (by rfl) T.z_len PySem.boot_len (pa_cons (pv 0) pa_nil)) pe_int (nomark _)) (pss_one (ps_ret (pe_ifExp (pt_cmpR op_eq (pe_callB call_len_seq (by rfl) T.z_len PySem.boot_len (pa_cons (pv 0) pa_nil)) pe_int (nomark _)) (pe_makeR T.mk_Weather G_Weather_init (hr.mono (by decide)) (by rfl) T.mg_Weather pass0 (pa_cons (pe_ix ix_list (pv 1) pe_int (fun _ _ => rfl)) pa_nil)) (pe_makeR T.mk_Weather G_Weather_init (hr.mono (by decide)) (by rfl) T.mg_Weather pass0 (pa_cons (pe_ix ix_list (pv 1) pe_int (fun _ _ => rfl)) (pa_cons (pe_ix ix_list (pv 1) pe_int (fun _ _ => rfl)) pa_nil)))))) pss_nil)
      (pss_cons (ps_if (pt_cmpR op_lt (pe_callB call_len_seq (by rfl) T.z_len PySem.boot_len (pa_cons (pv 0) pa_nil)) pe_int (nomark _)) (pss_one (ps_ret (pe_ifExp (pt_cmpR op_eq (pe_callB call_len_seq (by rfl) T.z_len PySem.boot_len (pa_cons (pv 0) pa_nil)) pe_int (nomark _)) (pe_makeR T.mk_Weather G_Weather_init (hr.mono (by decide)) (by rfl) T.mg_Weather pass0 (pa_cons (pe_ix ix_list (pv 1) pe_int (fun _ _ => rfl)) (pa_cons (pe_ix ix_list (pv 1) pe_int (fun _ _ => rfl)) (pa_cons (pe_ix ix_list (pv 1) pe_int (fun _ _ => rfl)) pa_nil)))) (pe_makeR T.mk_Weather G_Weather_init (hr.mono (by decide)) (by rfl) T.mg_Weather pass0 (pa_cons (pe_ix ix_list (pv 1) pe_int (fun _ _ => rfl)) (pa_cons (pe_ix ix_list (pv 1) pe_int (fun _ _ => rfl)) (pa_cons (pe_ix ix_list (pv 1) pe_int (fun _ _ => rfl)) (pa_cons (pe_ix ix_list (pv 1) pe_int (fun _ _ => rfl)) pa_nil)))))))) pss_nil)
      (pss_cons (ps_if (pt_cmpR op_eq (pe_callB call_len_seq (by rfl) T.z_len PySem.boot_len (pa_cons (pv 0) pa_nil)) pe_int (nomark _)) (pss_one (ps_ret (pe_makeR T.mk_Weather G_Weather_init (hr.mono (by decide)) (by rfl) T.mg_Weather pass0 (pa_cons (pe_ix ix_list (pv 1) pe_int (fun _ _ => rfl)) (pa_cons (pe_ix ix_list (pv 1) pe_int (fun _ _ => rfl)) (pa_cons (pe_ix ix_list (pv 1) pe_int (fun _ _ => rfl)) (pa_cons (pe_ix ix_list (pv 1) pe_int (fun _ _ => rfl)) (pa_cons (pe_ix ix_list (pv 1) pe_int (fun _ _ => rfl)) pa_nil)))))))) pss_nil)
      (pss_one (ps_ret (pe_makeR T.mk_Weather G_Weather_init (hr.mono (by decide)) (by rfl) T.mg_Weather pass0 (pa_cons (pe_ix ix_list (pv 1) pe_int (fun _ _ => rfl)) (pa_cons (pe_ix ix_list (pv 1) pe_int (fun _ _ => rfl)) (pa_cons (pe_ix ix_list (pv 1) pe_int (fun _ _ => rfl)) (pa_cons (pe_ix ix_list (pv 1) pe_int (fun _ _ => rfl)) (pa_cons (pe_ix ix_list (pv 1) pe_int (fun _ _ => rfl)) (pa_cons (pe_ix ix_list (pv 1) pe_int (fun _ _ => rfl)) pa_nil))))))))))))), ?_⟩
    refine ⟨_, rfl, t, _, rfl, .inr (SqT.of ht), fun l hl => ⟨by show 1 ≤ sizeLine; decide, fun q hq => ⟨q, _, _, rfl, rfl, upd_same, by decide, by decide, by show 1 * 6 ≤ sizeLine; decide, fun r hw => ?_⟩⟩⟩
    have l1 : (upd (upd (upd H l (.lst (cs.map V.int))) q (.lst [V.int 0])) r (.lst (List.replicate (6 : Int).toNat [V.int 0]).flatten)) l = some (.lst (cs.map V.int)) := by
      rw [upd_ne (ne_of_none (same_upd hq _ _ upd_same) hw), upd_ne (ne_of_none upd_same hq), upd_same]
    refine ⟨l, r, _, _, rfl, rfl, l1, upd_same, Nat.le_of_lt (small1000 (by rw [List.length_map]; show _ + 6 ≤ 1000; omega)), fun z hz => ?_⟩
    have sm := ((((same_upd hl).trans (same_upd hq)).trans (same_upd hw)).trans (same_upd (o := .lst (cs.map V.int ++ (List.replicate (6 : Int).toNat [V.int 0]).flatten)) hz))
    generalize hH2 : upd _ z (.lst (cs.map V.int ++ (List.replicate (6 : Int).toNat [V.int 0]).flatten)) = H2 at sm
    have hz2 : H2 z = some (.lst (cs.map V.int ++ (List.replicate (6 : Int).toNat [V.int 0]).flatten)) := by rw [← hH2]; exact upd_same
    have ht2 := sm _ _ ht
    have kk : ∀ y H', Same H2 H' → WAt a H' y cs → Q (.ref y) H' := fun y H' s wt => k y H' (sm.trans s) wt
    obtain ⟨c1, c2, c3⟩ := id c
    match cs, c1, c6 with
    | [], c1, _ => simp at c1
    | [u], _, _ =>
      refine ⟨_, rfl, t, _, rfl, .inr (SqT.of ht2), _, _, rfl, rfl, _, rfl, ifT rfl ?_⟩
      refine ⟨_, rfl, t, _, rfl, .inr (SqT.of ht2), rfl, _, rfl, ifT rfl ?_⟩
      exact ⟨_, rfl, z, _, _, _, rfl, rfl, SqL.of hz2, rfl, weather_made (cs := [u]) c kk⟩
    | [u, v], _, _ =>
      refine ⟨_, rfl, t, _, rfl, .inr (SqT.of ht2), _, _, rfl, rfl, _, rfl, ifT rfl ?_⟩
      refine ⟨_, rfl, t, _, rfl, .inr (SqT.of ht2), rfl, _, rfl, ifF rfl ?_⟩
      exact ⟨_, rfl, z, _, _, _, rfl, rfl, SqL.of hz2, rfl, _, rfl, z, _, _, _, rfl, rfl, SqL.of hz2, rfl, weather_made (cs := [u, v]) c kk⟩
    | [u, v, x], _, _ =>
      refine ⟨_, rfl, t, _, rfl, .inr (SqT.of ht2), _, _, rfl, rfl, _, rfl, ifF rfl ?_⟩
      refine ⟨_, rfl, t, _, rfl, .inr (SqT.of ht2), _, _, rfl, rfl, _, rfl, ifT rfl ?_⟩
      refine ⟨_, rfl, t, _, rfl, .inr (SqT.of ht2), rfl, _, rfl, ifT rfl ?_⟩
      exact ⟨_, rfl, z, _, _, _, rfl, rfl, SqL.of hz2, rfl, _, rfl, z, _, _, _, rfl, rfl, SqL.of hz2, rfl, _, rfl, z, _, _, _, rfl, rfl, SqL.of hz2, rfl, weather_made (cs := [u, v, x]) c kk⟩
    | [u, v, x, y], _, _ =>
      refine ⟨_, rfl, t, _, rfl, .inr (SqT.of ht2), _, _, rfl, rfl, _, rfl, ifF rfl ?_⟩
      refine ⟨_, rfl, t, _, rfl, .inr (SqT.of ht2), _, _, rfl, rfl, _, rfl, ifT rfl ?_⟩
      refine ⟨_, rfl, t, _, rfl, .inr (SqT.of ht2), rfl, _, rfl, ifF rfl ?_⟩
      exact ⟨_, rfl, z, _, _, _, rfl, rfl, SqL.of hz2, rfl, _, rfl, z, _, _, _, rfl, rfl, SqL.of hz2, rfl, _, rfl, z, _, _, _, rfl, rfl, SqL.of hz2, rfl, _, rfl, z, _, _, _, rfl, rfl, SqL.of hz2, rfl, weather_made (cs := [u, v, x, y]) c kk⟩
    | [u, v, x, y, m], _, _ =>
      refine ⟨_, rfl, t, _, rfl, .inr (SqT.of ht2), _, _, rfl, rfl, _, rfl, ifF rfl ?_⟩
      refine ⟨_, rfl, t, _, rfl, .inr (SqT.of ht2), _, _, rfl, rfl, _, rfl, ifF rfl ?_⟩
      refine ⟨_, rfl, t, _, rfl, .inr (SqT.of ht2), rfl, _, rfl, ifT rfl ?_⟩
      exact ⟨_, rfl, z, _, _, _, rfl, rfl, SqL.of hz2, rfl, _, rfl, z, _, _, _, rfl, rfl, SqL.of hz2, rfl, _, rfl, z, _, _, _, rfl, rfl, SqL.of hz2, rfl, _, rfl, z, _, _, _, rfl, rfl, SqL.of hz2, rfl, _, rfl, z, _, _, _, rfl, rfl, SqL.of hz2, rfl, weather_made (cs := [u, v, x, y, m]) c kk⟩
    | [u, v, x, y, m, n], _, _ =>
      refine ⟨_, rfl, t, _, rfl, .inr (SqT.of ht2), _, _, rfl, rfl, _, rfl, ifF rfl ?_⟩
      refine ⟨_, rfl, t, _, rfl, .inr (SqT.of ht2), _, _, rfl, rfl, _, rfl, ifF rfl ?_⟩
      refine ⟨_, rfl, t, _, rfl, .inr (SqT.of ht2), rfl, _, rfl, ifF rfl ?_⟩
      exact ⟨_, rfl, z, _, _, _, rfl, rfl, SqL.of hz2, rfl, _, rfl, z, _, _, _, rfl, rfl, SqL.of hz2, rfl, _, rfl, z, _, _, _, rfl, rfl, SqL.of hz2, rfl, _, rfl, z, _, _, _, rfl, rfl, SqL.of hz2, rfl, _, rfl, z, _, _, _, rfl, rfl, SqL.of hz2, rfl, _, rfl, z, _, _, _, rfl, rfl, SqL.of hz2, rfl, weather_made (cs := [u, v, x, y, m, n]) c kk⟩
    | u :: v :: x :: y :: m :: n :: o :: r, _, c6 => simp at c6
end
end W6

namespace W6
open PySem PySem.Spec PyProof.Rows L2 Ru StX
theorem cut_pre {cs : List Int} {i : Nat} (h : i ≤ cs.length) : cutV (cs.map V.int) none (some (i : Int)) = (cs.take i).map V.int := by
  unfold cutV
  rw [HT.sIx_none, HT.sIx_nat, List.length_map, Nat.min_eq_left h, List.drop_zero, Nat.sub_zero, List.map_take]
theorem sums_at {cs : List Int} {gg : Int} {r : Nat} (h : r < cs.length) : (sumsV cs gg)[r]? = some (.int (Th.pre cs gg r)) := by
  unfold sumsV
  simp [h]
theorem sum_bd : ∀ {cs : List Int}, (∀ c ∈ cs, -100 ≤ c ∧ c ≤ 100) → -(100 * (cs.length : Int)) ≤ cs.sum ∧ cs.sum ≤ 100 * (cs.length : Int)
  | [], _ => by simp
  | c :: r, h => by
    have h1 := h c List.mem_cons_self
    have h2 := sum_bd (cs := r) (fun x hx => h x (List.mem_cons_of_mem _ hx))
    simp only [List.sum_cons, List.length_cons]
    omega
theorem rsum_bd {cs : List Int} (c : CH cs) {gg : Int} (g0 : 0 ≤ gg) (g1 : gg ≤ 200) : -10000 ≤ Th.rsum cs gg ∧ Th.rsum cs gg ≤ 10000 := by
  have b := sum_bd c.2.2
  have c1 := c.1
  have c2 := c.2.1
  unfold Th.rsum
  have m0 : 0 ≤ gg * (cs.length : Int) := Int.mul_nonneg g0 (by omega)
  have m1 : gg * (cs.length : Int) ≤ 200 * 24 := Int.mul_le_mul g1 (by omega) (by omega) (by omega)
  omega
theorem gon_bd {g : Int} (h1 : 1 ≤ g) (h2 : g ≤ 200) (b : Bool) : 0 ≤ Th.gon g b ∧ Th.gon g b ≤ 200 := by
  unfold Th.gon
  split <;> omega
section
variable {P : Program} {w : World} {K : PySem.W.Frag} {mg : Str → Option Value} {base : Heap} {a : Ad}
theorem ok_Drift_init (T : Txt K mg a) : FnOk P w K mg base CX0 1 a.f_Drift_init a.d_Drift_init ["self", "changes", "gain"] (spDi a) := by
  refine T.F_Drift_init.ok sc_Drift_init (fun vs H Q E h => ?_) (fun cdv A outer s H vs Q E hr h => ?_)
  · obtain ⟨x, dx, t, cs, gg, rfl, _⟩ := h
    rfl
  · obtain ⟨x, dx, t, cs, gg, rfl, hx, ht, c, g0, g1, k⟩ := h
    obtain ⟨c1, c2, c3⟩ := id c
    refine ⟨_, (pss_cons (ps_fld (pv 0) (pe_callB call_len_seq (by rfl) T.z_len PySem.boot_len (pa_cons (pv 1) pa_nil)) rfl)
      (pss_cons (ps_fld (pv 0) (pe_op op_add (pe_callB (cr_sumT rfl) (by rfl) T.z_sum (by decide +kernel) (pa_cons (pv 1) pa_nil)) (pe_op op_mul (pv 2) (pe_callB call_len_seq (by rfl) T.z_len PySem.boot_len (pa_cons (pv 1) pa_nil)))) rfl)
      (pss_one (ps_fld (pv 0) (pe_lc (own := [("ticks", 3)]) (g := gName 3) rfl sc_Drift_init.nd (pi_range1 (by rfl) T.z_range (pa_cons (pe_callB call_len_seq (by rfl) T.z_len PySem.boot_len (pa_cons (pv 1) pa_nil)) pa_nil)) (blkOk_by (own := [("ticks", 3)]) (N := ["self", "changes", "gain", "ticks"]) (sc := (defScope s_Drift_init)) (by decide +kernel)) (fun _ _ _ _ _ => pg_name (i := 3) sc_Drift_init.nd rfl (Or.inl rfl)) (fun _ _ _ _ _ => pts_nil) (fun _ _ _ _ _ => (pe_op op_add (pe_callB (show CallR _ (.builtin "sum") (rSumT K) from cr_sumT rfl) (by rfl) T.z_sum (by decide +kernel) (pa_cons (pe_slice (show SlR _ (rSlA K) from sl_tupA) (pv 1) po_none (po_some (pv 3))) pa_nil)) (pe_op op_mul (pv 2) (pv 3))))) rfl)))), ?_⟩
    have ntx : t ≠ x := ne_of ht hx (fun z => nomatch z)
    refine ⟨_, rfl, t, _, rfl, .inr (SqT.of ht), _, rfl, x, _, dx, _, rfl, hx, T.cl_Drift, T.na_Drift_round_ticks, by show 0 < 1000; decide, ?_⟩
    have t1 := (upd_ne (H := H) (o := .ins a.c_Drift dx (putF (Str.ofString "round_ticks") (V.int ((cs.map V.int).length : Nat)) [])) ntx).trans ht
    refine ⟨_, rfl, t, cs, rfl, SqT.of t1, _, rfl, _, rfl, t, _, rfl, .inr (SqT.of t1), _, _, rfl, rfl, .inl ⟨by omega, by omega⟩, _, _, rfl, rfl, _, rfl, x, _, dx, _, rfl, upd_same, T.cl_Drift, T.na_Drift_round_sum, by show 1 < 1000; decide, ?_⟩
    generalize hH2 : upd _ x (HO.ins a.c_Drift dx (putF (Str.ofString "round_sum") _ _)) = H2
    have hx2 : H2 x = some (.ins a.c_Drift dx [("round_ticks", .int cs.length), ("round_sum", .int (Th.rsum cs gg))]) := by
      rw [← hH2, upd_same]
      unfold Th.rsum
      rw [List.length_map]
      rfl
    have fr2 : Fr1 x H H2 := by rw [← hH2]; exact Fr1.upd.trans Fr1.upd
    have t2 : H2 t = some (.tup (cs.map V.int)) := fr2 _ _ ntx ht
    refine ⟨_, rfl, t, _, rfl, .inr (SqT.of t2), _, rfl, by omega, by rw [List.length_map]; omega, fun D hD => lc_range (lo := 0) (n := ((((cs.map V.int).length : Nat) : Int)).toNat) (fun i H' => (∀ b o, b ≠ D → H2 b = some o → H' b = some o) ∧ H' D = some (.lst ((List.range i).map fun r => V.int (Th.pre cs gg r)))) ⟨fun b o hb e => by rw [upd_ne hb]; exact e, by rw [upd_same]; rfl⟩ ?_ ?_⟩
    · rintro i H' hi ⟨kp, hD'⟩
      have hi' : i < cs.length := by simpa using hi
      have ntD : t ≠ D := ne_of_none t2 hD
      have t3 := kp _ _ ntD t2
      refine ⟨rfl, ?_⟩
      have dn : ∀ b u, H' b = some u → D ≠ b → True := fun _ _ _ _ => trivial
      -- the last heap, from the one behind the slice
      have fin : ∀ H4, Same H' H4 → ∃ acc, H4 D = some (.lst acc) ∧ acc.length < sizeLine ∧ (∀ b o, b ≠ D → H2 b = some o → upd H4 D (.lst (acc ++ [V.int (((cs.take i).sum) + gg * (i : Int))])) b = some o) ∧ upd H4 D (.lst (acc ++ [V.int (((cs.take i).sum) + gg * (i : Int))])) D = some (.lst ((List.range (i + 1)).map fun r => V.int (Th.pre cs gg r))) := fun H4 s4 =>
        ⟨_, s4 _ _ hD', small1000 (by rw [List.length_map, List.length_range]; omega), fun b o hb e => by rw [upd_ne hb]; exact s4 _ _ (kp b o hb e), by rw [upd_same, List.range_succ, List.map_append]; rfl⟩
      have ei : (0 : Int) + (i : Int) = (i : Int) := by omega
      refine ⟨_, rfl, _, rfl, (i : Int), congrArg V.int ei, t, _, rfl, SqT.of t3, fun q => ?_, fun _ q hq => ?_⟩
      · rw [HT.sIx_nat, List.length_map] at q
        omega
      · refine ⟨q, cs.take i, rfl, SqT.of (by rw [upd_same, cut_pre (by omega)]), _, rfl, _, rfl, gg, (i : Int), rfl, congrArg V.int ei, .inl ⟨by omega, by omega⟩, _, _, rfl, rfl, fin _ (same_upd hq)⟩
    · rintro H' ⟨kp, hD'⟩
      have nxD : x ≠ D := ne_of_none hx2 hD
      refine ⟨_, rfl, x, _, dx, _, rfl, kp _ _ nxD hx2, T.cl_Drift, T.na_Drift__sums, by show 2 < 1000; decide, ?_⟩
      have hl : (((cs.map V.int).length : Nat) : Int).toNat = cs.length := by rw [List.length_map]; omega
      rw [hl] at hD'
      refine k _ ?_ ⟨⟨c, g0, g1⟩, dx, D, by rw [upd_same]; rfl, by rw [upd_ne nxD.symm]; exact hD'⟩
      intro b o hb e
      rw [upd_ne hb]
      exact kp _ _ (ne_of_none (fr2 b o hb e) hD) (fr2 b o hb e)
end
end W6

namespace W6
open PySem PySem.Spec PyProof.Rows L2 Ru StX
section
variable {P : Program} {w : World} {K : PySem.W.Frag} {mg : Str → Option Value} {base : Heap} {a : Ad}
theorem ok_Drift_sum_to (T : Txt K mg a) : FnOk P w K mg base CX0 1 a.f_Drift_sum_to a.d_Drift_sum_to ["self", "tick"] (spSum a) := by
  refine T.F_Drift_sum_to.ok sc_Drift_sum_to (fun vs H Q E h => ?_) (fun cdv A outer s H vs Q E hr h => ?_)
  · obtain ⟨x, t, cs, gg, rfl, _⟩ := h
    rfl
  · obtain ⟨x, t, cs, gg, rfl, ⟨⟨c, g0, g1⟩, dx, l, hx, hl⟩, k⟩ := h
    obtain ⟨c1, c2, c3⟩ := id c
    refine ⟨_, (pss_cons (ps_asg (pe_callB call_divmod (by rfl) T.z_divmod (by decide +kernel) (pa_cons (pv 1) (pa_cons (pe_fld (pv 0) rfl) pa_nil))) (pg_tup rfl (pgs_cons (pg_name (i := 2) sc_Drift_sum_to.nd rfl (Or.inl rfl)) (pgs_cons (pg_name (i := 3) sc_Drift_sum_to.nd rfl (Or.inl rfl)) pgs_nil))))
      (pss_one (ps_ret (pe_op op_add (pe_op op_mul (pv 2) (pe_fld (pv 0) rfl)) (pe_ix ix_list (pe_fld (pv 0) rfl) (pv 3) (fun _ _ => rfl)))))), ?_⟩
    refine ⟨_, rfl, _, rfl, x, _, dx, _, _, rfl, hx, T.cl_Drift, T.na_Drift_round_ticks, rfl, _, _, rfl, ⟨by omega, by omega⟩, fun p hp => ?_⟩
    have sm := same_upd (o := .tup [.int ((t : Int) / (cs.length : Int)), .int ((t : Int) % (cs.length : Int))]) hp
    have hx2 := sm _ _ hx
    have hl2 := sm _ _ hl
    refine ⟨p, _, rfl, SqT.of upd_same, rfl, _, _, rfl, _, _, rfl, rfl, ?_⟩
    have rb := rsum_bd c g0 g1
    have m0 : 0 ≤ (t : Int) % (cs.length : Int) := Int.emod_nonneg _ (by omega)
    have m1 : ((t : Int) % (cs.length : Int)).toNat < cs.length := by have := Int.emod_lt_of_pos (t : Int) (show (0 : Int) < cs.length by omega); omega
    refine ⟨_, rfl, _, rfl, x, _, dx, _, _, rfl, hx2, T.cl_Drift, T.na_Drift_round_sum, rfl, _, _, rfl, rfl, .inr ⟨by omega, by omega⟩, _, rfl, x, _, dx, _, _, rfl, hx2, T.cl_Drift, T.na_Drift__sums, rfl, _, rfl, l, _, _, _, rfl, rfl, SqL.of hl2, at_int m0 (sums_at m1), _, _, rfl, rfl, ?_⟩
    have e : Th.sumTo cs gg t = (t : Int) / (cs.length : Int) * Th.rsum cs gg + Th.pre cs gg ((t : Int) % (cs.length : Int)).toNat := Th.sumTo_eq c1 t
    have q := k _ sm
    rw [e] at q
    exact q
theorem ok_both_drifts (T : Txt K mg a) : FnOk P w K mg base CX0 3 a.f_both_drifts a.d_both_drifts ["changes", "gain"] (spBoth a) := by
  have G_Drift_init : FnOk P w K mg base CX0 1 a.f_Drift_init a.d_Drift_init ["self", "changes", "gain"] (spDi a) := ok_Drift_init T
  refine T.F_both_drifts.ok sc_both_drifts (fun vs H Q E h => ?_) (fun cdv A outer s H vs Q E hr h => ?_)
  · obtain ⟨t, cs, g, rfl, _⟩ := h
    rfl
  · obtain ⟨t, cs, g, rfl, ht, c, g1, g2, k⟩ := h
    refine ⟨_, (pss_one (ps_ret (pe_tup (pa_cons (pe_make T.mk_Drift G_Drift_init (hr.mono (by decide)) (by rfl) T.mg_Drift (b_Drift_init T) .nil pass0 (pa_cons (pv 0) (pa_cons pe_int pa_nil))) (pa_cons (pe_make T.mk_Drift G_Drift_init (hr.mono (by decide)) (by rfl) T.mg_Drift (b_Drift_init T) .nil pass0 (pa_cons (pv 0) (pa_cons (pv 1) pa_nil))) pa_nil))))), ?_⟩
    refine ⟨_, rfl, fun x dx nx nd ne => ⟨x, dx, t, cs, 0, rfl, upd_same, same_made nx nd _ _ ht, c, by omega, by omega, fun H1 fr d0 => ⟨rfl, ?_⟩⟩⟩
    have s1 := Fr1.made nx nd fr
    refine ⟨_, rfl, _, rfl, fun x2 dx2 nx2 nd2 ne2 => ⟨x2, dx2, t, cs, g, rfl, upd_same, same_made nx2 nd2 _ _ (s1 _ _ ht), c, by omega, g2, fun H2 fr2 d1 => ⟨rfl, by show 2 ≤ sizeLine; decide, fun p hp => ?_⟩⟩⟩
    have s2 := Fr1.made nx2 nd2 fr2
    have s3 := same_upd (o := .tup [.ref x, .ref x2]) hp
    exact k p _ ((s1.trans s2).trans s3) ⟨x, x2, upd_same, (d0.same s2).same s3, d1.same s3⟩
theorem ok_Stretch_init (T : Txt K mg a) : FnOk P w K mg base CX0 2 a.f_Stretch_init a.d_Stretch_init ["self", "drifts", "on", "begin", "degrees"] (spSi a) := by
  have G_Drift_sum_to : FnOk P w K mg base CX0 1 a.f_Drift_sum_to a.d_Drift_sum_to ["self", "tick"] (spSum a) := ok_Drift_sum_to T
  refine T.F_Stretch_init.ok sc_Stretch_init (fun vs H Q E h => ?_) (fun cdv A outer s H vs Q E hr h => ?_)
  · obtain ⟨S, x, dx, td, cs, g, d, on, b, rfl, _⟩ := h
    rfl
  · obtain ⟨S, x, dx, td, cs, g, d, on, b, rfl, hx, nxS, ddS, k⟩ := h
    have dd : DDs a H td cs g := ddS.same del_same
    refine ⟨_, (pss_cons (ps_fld (pv 0) (pv 2) rfl)
      (pss_cons (ps_fld (pv 0) (pv 3) rfl)
      (pss_cons (ps_fld (pv 0) (pv 1) rfl)
      (pss_cons (ps_fld (pv 0) (pe_ifExp (pt_val (pv 2)) (pe_ix ix_tup (pv 1) pe_int (fun _ _ => rfl)) (pe_ix ix_tup (pv 1) pe_int (fun _ _ => rfl))) rfl)
      (pss_one (ps_fld (pv 0) (pe_op op_sub (pv 4) (pe_meth (pe_fld (pv 0) rfl) T.cl_Drift T.me_Drift_sum_to G_Drift_sum_to (hr.mono (by decide)) (b_Drift_sum_to T) .nil pass0 (pa_cons (pv 3) pa_nil))) rfl)))))), ?_⟩
    obtain ⟨d0, d1, htdS, hd0S, hd1S⟩ := id ddS
    have htd := del_same _ _ htdS
    have hd0 := hd0S.same del_same
    have hd1 := hd1S.same del_same
    have ntx : td ≠ x := ne_of htd hx (fun z => nomatch z)
    have n0 : d0 ≠ x := by
      obtain ⟨_, _, _, h, _⟩ := hd0
      exact ne_of h hx (fun z => by injection z with z1 z2 z3; cases z3)
    have n1 : d1 ≠ x := by
      obtain ⟨_, _, _, h, _⟩ := hd1
      exact ne_of h hx (fun z => by injection z with z1 z2 z3; cases z3)
    refine ⟨_, rfl, _, rfl, x, _, dx, _, rfl, hx, T.cl_Stretch, T.na_Stretch_on, by show 0 < 1000; decide, ?_⟩
    refine ⟨_, rfl, _, rfl, x, _, dx, _, rfl, upd_same, T.cl_Stretch, T.na_Stretch_begin, by show 1 < 1000; decide, ?_⟩
    refine ⟨_, rfl, _, rfl, x, _, dx, _, rfl, upd_same, T.cl_Stretch, T.na_Stretch__drifts, by show 2 < 1000; decide, ?_⟩
    generalize hH2 : upd _ x (HO.ins a.c_Stretch dx (putF (Str.ofString "_drifts") _ _)) = H2
    have hx2 : H2 x = some (.ins a.c_Stretch dx [("on", .bl on), ("begin", .int b), ("_drifts", .ref td)]) := by rw [← hH2, upd_same]; rfl
    have fr2 : Fr1 x H H2 := by rw [← hH2]; exact (Fr1.upd.trans Fr1.upd).trans Fr1.upd
    have htd2 := fr2 _ _ ntx htd
    have fin : ∀ (dd' : Addr), DAt a (del H S) dd' cs (Th.gon g on) → dd' ≠ x → ∀ H4, Same (upd H2 x (.ins a.c_Stretch dx [("on", .bl on), ("begin", .int b), ("_drifts", .ref td), ("_drift", .ref dd')])) H4 →
        Q .non (upd H4 x (.ins a.c_Stretch dx [("on", .bl on), ("begin", .int b), ("_drifts", .ref td), ("_drift", .ref dd'), ("_base", .int (d - Th.sumTo cs (Th.gon g on) b))])) := fun dd' hd' ne H4 sm => by
      have fr : Fr1 x H (upd H4 x (.ins a.c_Stretch dx [("on", .bl on), ("begin", .int b), ("_drifts", .ref td), ("_drift", .ref dd'), ("_base", .int (d - Th.sumTo cs (Th.gon g on) b))])) := ((fr2.trans Fr1.upd).trans (Fr1.of sm)).trans Fr1.upd
      have hF : upd H4 x (.ins a.c_Stretch dx [("on", .bl on), ("begin", .int b), ("_drifts", .ref td), ("_drift", .ref dd'), ("_base", .int (d - Th.sumTo cs (Th.gon g on) b))]) x = _ := upd_same
      generalize upd H4 x _ = HF at *
      have dat : ∀ {z : Addr} {gg : Int}, DAt a (del H S) z cs gg → z ≠ x → DAt a (del HF S) z cs gg := fun ⟨q1, q2, q3, q4, q5⟩ nz => ⟨q1, q2, q3, fr.del _ _ nz q4, fr.del _ _ (ne_of (del_same _ _ q5) hx (fun z => nomatch z)) q5⟩
      exact k _ fr ⟨dx, td, dd', (del_in nxS).trans hF, ⟨d0, d1, fr.del _ _ ntx htdS, dat hd0S n0, dat hd1S n1⟩, dat hd' ne⟩
    cases on with
    | true =>
      refine ⟨_, rfl, _, rfl, _, rfl, td, _, _, _, rfl, rfl, SqT.of htd2, rfl, _, rfl, x, _, dx, _, rfl, hx2, T.cl_Stretch, T.na_Stretch__drift, by show 3 < 1000; decide, ?_⟩
      obtain ⟨q1, ddx, dl, q4, q5⟩ := id hd1
      have hx3 : (upd H2 x (.ins a.c_Stretch dx (putF (Str.ofString "_drift") (.ref d1) [("on", .bl true), ("begin", .int b), ("_drifts", .ref td)]))) x = some (.ins a.c_Stretch dx [("on", .bl true), ("begin", .int b), ("_drifts", .ref td), ("_drift", .ref d1)]) := by rw [upd_same]; rfl
      have d3 : DAt a (upd H2 x (.ins a.c_Stretch dx (putF (Str.ofString "_drift") (.ref d1) [("on", .bl true), ("begin", .int b), ("_drifts", .ref td)]))) d1 cs g := ⟨q1, ddx, dl, (fr2.trans Fr1.upd) _ _ n1 q4, (fr2.trans Fr1.upd) _ _ (ne_of q5 hx (fun z => nomatch z)) q5⟩
      obtain ⟨_, ddx3, dl3, q43, _⟩ := id d3
      refine ⟨_, rfl, _, rfl, x, _, dx, _, _, rfl, hx3, T.cl_Stretch, T.na_Stretch__drift, rfl, d1, ddx3, _, rfl, q43, rfl, _, rfl, d1, b, cs, g, rfl, d3, fun H4 sm => ⟨_, _, rfl, rfl, _, rfl, x, _, dx, _, rfl, sm _ _ hx3, T.cl_Stretch, T.na_Stretch__base, by show 4 < 1000; decide, ?_⟩⟩
      exact fin d1 hd1S n1 H4 sm
    | false =>
      refine ⟨_, rfl, _, rfl, _, rfl, td, _, _, _, rfl, rfl, SqT.of htd2, rfl, _, rfl, x, _, dx, _, rfl, hx2, T.cl_Stretch, T.na_Stretch__drift, by show 3 < 1000; decide, ?_⟩
      obtain ⟨q1, ddx, dl, q4, q5⟩ := id hd0
      have hx3 : (upd H2 x (.ins a.c_Stretch dx (putF (Str.ofString "_drift") (.ref d0) [("on", .bl false), ("begin", .int b), ("_drifts", .ref td)]))) x = some (.ins a.c_Stretch dx [("on", .bl false), ("begin", .int b), ("_drifts", .ref td), ("_drift", .ref d0)]) := by rw [upd_same]; rfl
      have d3 : DAt a (upd H2 x (.ins a.c_Stretch dx (putF (Str.ofString "_drift") (.ref d0) [("on", .bl false), ("begin", .int b), ("_drifts", .ref td)]))) d0 cs 0 := ⟨q1, ddx, dl, (fr2.trans Fr1.upd) _ _ n0 q4, (fr2.trans Fr1.upd) _ _ (ne_of q5 hx (fun z => nomatch z)) q5⟩
      obtain ⟨_, ddx3, dl3, q43, _⟩ := id d3
      refine ⟨_, rfl, _, rfl, x, _, dx, _, _, rfl, hx3, T.cl_Stretch, T.na_Stretch__drift, rfl, d0, ddx3, _, rfl, q43, rfl, _, rfl, d0, b, cs, 0, rfl, d3, fun H4 sm => ⟨_, _, rfl, rfl, _, rfl, x, _, dx, _, rfl, sm _ _ hx3, T.cl_Stretch, T.na_Stretch__base, by show 4 < 1000; decide, ?_⟩⟩
      exact fin d0 hd0S n0 H4 sm
end
end W6

namespace W6
open PySem PySem.Spec PyProof.Rows L2 Ru StX
section
variable {P : Program} {w : World} {K : PySem.W.Frag} {mg : Str → Option Value} {base : Heap} {a : Ad}
theorem ok_Stretch_degrees_at (T : Txt K mg a) : FnOk P w K mg base CX0 2 a.f_Stretch_degrees_at a.d_Stretch_degrees_at ["self", "tick"] (spDeg a) := by
  have G_Drift_sum_to : FnOk P w K mg base CX0 1 a.f_Drift_sum_to a.d_Drift_sum_to ["self", "tick"] (spSum a) := ok_Drift_sum_to T
  refine T.F_Stretch_degrees_at.ok sc_Stretch_degrees_at (fun vs H Q E h => ?_) (fun cdv A outer s H vs Q E hr h => ?_)
  · obtain ⟨x, t, b, cs, g, base', on, rfl, _⟩ := h
    rfl
  · obtain ⟨x, t, b, cs, g, base', on, rfl, ⟨dx, td, d, hx, dd, hd⟩, k⟩ := h
    refine ⟨_, (pss_one (ps_ret (pe_op op_add (pe_fld (pv 0) rfl) (pe_meth (pe_fld (pv 0) rfl) T.cl_Drift T.me_Drift_sum_to G_Drift_sum_to (hr.mono (by decide)) (b_Drift_sum_to T) .nil pass0 (pa_cons (pv 1) pa_nil))))), ?_⟩
    obtain ⟨_, ddx, dl, q4, _⟩ := id hd
    exact ⟨_, rfl, x, _, dx, _, _, rfl, hx, T.cl_Stretch, T.na_Stretch__base, rfl, _, rfl, x, _, dx, _, _, rfl, hx, T.cl_Stretch, T.na_Stretch__drift, rfl, d, ddx, _, rfl, q4, rfl, _, rfl, d, t, cs, _, rfl, hd, fun H' sm => ⟨_, _, rfl, rfl, k H' sm⟩⟩
theorem ok_Stretch_switched (T : Txt K mg a) : FnOk P w K mg base CX0 4 a.f_Stretch_switched a.d_Stretch_switched ["self", "tick"] (spSwitched a) := by
  have G_Stretch_degrees_at : FnOk P w K mg base CX0 2 a.f_Stretch_degrees_at a.d_Stretch_degrees_at ["self", "tick"] (spDeg a) := ok_Stretch_degrees_at T
  have G_Stretch_init : FnOk P w K mg base CX0 2 a.f_Stretch_init a.d_Stretch_init ["self", "drifts", "on", "begin", "degrees"] (spSi a) := ok_Stretch_init T
  refine T.F_Stretch_switched.ok sc_Stretch_switched (fun vs H Q E h => ?_) (fun cdv A outer s H vs Q E hr h => ?_)
  · obtain ⟨S, x, e, b, cs, g, base', on, rfl, _⟩ := h
    rfl
  · obtain ⟨S, x, e, b, cs, g, base', on, rfl, oc, stS, k⟩ := h
    have st : SAt a H x cs g on b base' := stS.same del_same
    refine ⟨_, (pss_one (ps_ret (pe_make T.mk_Stretch G_Stretch_init (hr.mono (by decide)) (by rfl) T.mg_Stretch (b_Stretch_init T) .nil pass0 (pa_cons (pe_fld (pv 0) rfl) (pa_cons (pe_not (pe_fld (pv 0) rfl)) (pa_cons (pv 1) (pa_cons (pe_meth (pv 0) T.cl_Stretch T.me_Stretch_degrees_at G_Stretch_degrees_at (hr.mono (by decide)) (b_Stretch_degrees_at T) .nil pass0 (pa_cons (pv 1) pa_nil)) pa_nil))))))), ?_⟩
    obtain ⟨dx, td, d, hxS, dd, hd⟩ := id stS
    have hx := del_same _ _ hxS
    refine ⟨_, rfl, x, _, dx, _, _, rfl, hx, T.cl_Stretch, T.na_Stretch__drifts, rfl, _, rfl, x, _, dx, _, _, rfl, hx, T.cl_Stretch, T.na_Stretch_on, rfl, on, rfl, _, rfl, _, rfl, x, dx, _, rfl, hx, rfl, _, rfl, x, e, b, cs, g, base', on, rfl, st, fun H' sm => fun z dz nz nd ne => ?_⟩
    have s2 := same_made (x := z) (dx := dz) (C := a.c_Stretch) nz nd
    have nzS : z ∉ S := fun m => by
      obtain ⟨o, q⟩ := oc z m
      rw [sm _ _ q] at nz; cases nz
    exact ⟨S, z, dz, td, cs, g, _, !on, e, rfl, upd_same, nzS, (dd.same (Same.del sm)).same (Same.del s2), fun H2 fr st2 => ⟨rfl, k z H2 (sm.trans (Fr1.made nz nd fr)) (sm.free nz) st2⟩⟩
end
end W6

/-! the whole course: plain Lean -/
namespace Th
/-- what the begins of the stretches and the repetition say -/
structure CourseOk (p : Par) (bs : List Nat) (back : Option Nat) : Prop where
  ok : p.Ok
  chain : Chain p bs
  len : bs.length ≤ 9602
  far : ∀ (i b : Nat), bs[i]? = some b → b ≤ 480100000000000000
  fin : back = none → Dis p bs bs.length ∧ ∃ b, bs[bs.length - 1]? = some b ∧ Nev p b
  rep : ∀ k, back = some k → Dis p bs (bs.length - 1) ∧ k + 1 < bs.length ∧ ∃ f l, bs[k]? = some f ∧ bs[bs.length - 1]? = some l ∧ stt p f = stt p l
/-- how late the stretches begin -/
theorem begins {bs : List Nat} (h : ∀ i b c, bs[i]? = some b → bs[i + 1]? = some c → c ≤ b + SB) (h0 : bs[0]? = some 0) : ∀ i b, bs[i]? = some b → b ≤ i * SB
  | 0, b, e => by rw [h0] at e; cases e; exact Nat.zero_le _
  | i + 1, b, e => by
    obtain ⟨a, ha⟩ := at_some (bs := bs) (i := i) (by have := at_lt e; omega)
    have := begins h h0 i a ha
    have := h i a b ha e
    rw [Nat.succ_mul]
    omega
theorem Dis.snoc {p : Par} {bs : List Nat} {b : Nat} (d : Dis p bs bs.length) (h : ∀ a : Nat, a ∈ bs → stt p a ≠ stt p b) : Dis p (bs ++ [b]) (bs.length + 1) := fun i j a c hij hj h1 h2 => by
  rw [List.getElem?_append_left (by omega)] at h1
  by_cases e : j < bs.length
  · rw [List.getElem?_append_left e] at h2
    exact d i j a c hij e h1 h2
  · rw [List.getElem?_append_right (by omega), show j - bs.length = 0 by omega] at h2
    cases h2
    exact h a (List.mem_of_getElem? h1)
theorem Dis.app {p : Par} {bs : List Nat} {b : Nat} (d : Dis p bs bs.length) : Dis p (bs ++ [b]) bs.length := fun i j a c hij hj h1 h2 => by
  rw [List.getElem?_append_left (by omega)] at h1
  rw [List.getElem?_append_left hj] at h2
  exact d i j a c hij hj h1 h2
theorem last_app {α : Type} {bs : List α} {b : α} : (bs ++ [b])[(bs ++ [b]).length - 1]? = some b := by
  rw [List.length_append, List.length_singleton, Nat.add_sub_cancel, List.getElem?_append_right (Nat.le_refl _), Nat.sub_self]; rfl
/-- the next stretch's temperature is the same line's -/
theorem baB_next {p : Par} {b e : Nat} (n : Nx p b e) : Dg p.ch (ggB p b) (baB p b) e = deg p e := by
  rw [Dg_B]
  obtain ⟨h1, r, _⟩ := n
  have := run_deg (by omega) r
  unfold DD; omega
theorem far_of {bs : List Nat} (h : ∀ (i b c : Nat), bs[i]? = some b → bs[i + 1]? = some c → c ≤ b + SB) (h0 : bs[0]? = some 0) (l : bs.length ≤ 9602) : ∀ (i b : Nat), bs[i]? = some b → b ≤ 480100000000000000 := fun i b e => by
  have q := begins h h0 i b e
  have l2 := at_lt e
  have : i * SB ≤ 9602 * SB := Nat.mul_le_mul_right _ (by omega)
  have e : 9602 * SB = 480100000000000000 := rfl
  omega
/-- where a tick is: how often all has been repeated, the stretch, and the tick before that -/
structure Pl (p : Par) (bs : List Nat) (back : Option Nat) (t r i t' : Nat) : Prop where
  at' : ∃ b, bs[i]? = some b ∧ b ≤ t' ∧ ∀ c, bs[i + 1]? = some c → t' < c
  non : back = none → r = 0 ∧ t' = t
  som : ∀ k f l, back = some k → bs[k]? = some f → bs[bs.length - 1]? = some l → t = t' + r * (l - f) ∧ t' < l ∧ (0 < r → f ≤ t')
theorem CourseOk.per {p : Par} {bs : List Nat} {back : Option Nat} (h : CourseOk p bs back) {k f l : Nat} (e : back = some k) (hf : bs[k]? = some f) (hl : bs[bs.length - 1]? = some l) : f < l ∧ Per p f (l - f) := by
  obtain ⟨_, kl, f', l', hf', hl', st⟩ := h.rep k e
  rw [hf] at hf'; cases hf'
  rw [hl] at hl'; cases hl'
  have lt := h.chain.lt' (show k < bs.length - 1 by omega) hf hl
  exact ⟨lt, per_of st (Nat.le_of_lt lt)⟩
/-- the heater in the stretch, and back to the tick -/
theorem Pl.stay {p : Par} {bs : List Nat} {back : Option Nat} {t r i t' b : Nat} (h : CourseOk p bs back) (q : Pl p bs back t r i t') (hb : bs[i]? = some b) : b ≤ t' ∧ Run p b (t' + 1) := by
  obtain ⟨b', hb', le, nxt⟩ := q.at'
  rw [hb] at hb'; cases hb'
  refine ⟨le, fun u h1 h2 => ?_⟩
  by_cases c : i + 1 < bs.length
  · obtain ⟨e, he⟩ := at_some c
    have := nxt e he
    exact (h.chain.2 i b e hb he).2.1 u h1 (by omega)
  · have il := at_lt hb
    have ei : i = bs.length - 1 := by omega
    subst ei
    cases eb : back with
    | none =>
      obtain ⟨_, b', hb', nv⟩ := h.fin eb
      rw [hb] at hb'; cases hb'
      exact nv u h1
    | some k =>
      obtain ⟨_, kl, f', l', hf', hl', st⟩ := h.rep k eb
      have := (q.som k f' l' eb hf' hl').2.1
      rw [hb] at hl'; cases hl'
      omega
theorem Pl.again {p : Par} {bs : List Nat} {back : Option Nat} {t r i t' : Nat} (h : CourseOk p bs back) (q : Pl p bs back t r i t') : traj p t = traj p t' := by
  cases eb : back with
  | none => rw [(q.non eb).2]
  | some k =>
    obtain ⟨_, kl, f', l', hf', hl', st⟩ := h.rep k eb
    obtain ⟨e1, e2, e3⟩ := q.som k f' l' eb hf' hl'
    obtain ⟨lt, pe⟩ := h.per eb hf' hl'
    by_cases hr : 0 < r
    · rw [e1]; exact pe.times (e3 hr) r
    · have : r = 0 := by omega
      subst this
      rw [e1]; simp
theorem Pl.on {p : Par} {bs : List Nat} {back : Option Nat} {t r i t' b : Nat} (h : CourseOk p bs back) (q : Pl p bs back t r i t') (hb : bs[i]? = some b) : onn p t = onn p b := by
  obtain ⟨le, run⟩ := q.stay h hb
  have e : onn p t = onn p t' := congrArg Prod.snd (q.again h)
  rw [e, run t' le (by omega)]
theorem Pl.heat {p : Par} {bs : List Nat} {back : Option Nat} {t r i t' b : Nat} (h : CourseOk p bs back) (q : Pl p bs back t r i t') (hb : bs[i]? = some b) :
    Hc p t' = Hc p b + (if onn p b then (t' : Int) - b else 0) ∧ (r = 0 → t = t') ∧ ∀ k f l, back = some k → bs[k]? = some f → bs[bs.length - 1]? = some l → 0 < r → Hc p t = Hc p t' + (r : Int) * (Hc p l - Hc p f) := by
  obtain ⟨le, run⟩ := q.stay h hb
  have e := run_heat le (fun u h1 h2 => run u h1 (by omega))
  refine ⟨?_, fun h0 => ?_, fun k f l eb hf hl hr => ?_⟩
  · rw [e]
    split <;> omega
  · subst h0
    cases eb : back with
    | none => exact (q.non eb).2.symm
    | some k =>
      obtain ⟨_, kl, f', l', hf', hl', st⟩ := h.rep k eb
      have := (q.som k f' l' eb hf' hl').1
      simpa using this
  · obtain ⟨e1, e2, e3⟩ := q.som k f l eb hf hl
    obtain ⟨lt, pe⟩ := h.per eb hf hl
    have z := pe.heats (e3 hr) r
    rw [show f + (l - f) = l by omega] at z
    rw [e1]; exact z
theorem Hc_bd (p : Par) : ∀ t, 0 ≤ Hc p t ∧ Hc p t ≤ (t : Int)
  | 0 => ⟨Int.le_refl _, Int.le_refl _⟩
  | t + 1 => by
    have := Hc_bd p t
    have e : Hc p (t + 1) = Hc p t + (if onn p t then 1 else 0) := rfl
    rw [e]
    split <;> omega
theorem Hc_mono (p : Par) (a : Nat) : ∀ d, Hc p a ≤ Hc p (a + d) ∧ Hc p (a + d) ≤ Hc p a + (d : Int)
  | 0 => ⟨Int.le_refl _, by simp⟩
  | d + 1 => by
    have := Hc_mono p a d
    have e : Hc p (a + (d + 1)) = Hc p (a + d) + (if onn p (a + d) then 1 else 0) := rfl
    rw [e]
    split <;> omega
end Th

/-! the repetition, the share of heating: plain Lean -/
namespace Th
/-- a level stretch without an end repeats each round -/
theorem level_per {p : Par} (ok : p.Ok) {b : Nat} (n : Nev p b) (z : rsum p.ch (gon p.g (onn p b)) = 0) : Per p b p.ch.length := fun t ht => by
  have on1 : onn p (t + p.ch.length) = onn p t := (n _ (by omega)).trans (n t ht).symm
  have ot : onn p t = onn p b := n t ht
  have r : Run p t (t + p.ch.length) := fun u h1 h2 => (n u (by omega)).trans ot.symm
  have e1 := run_deg (by omega) r
  have e2 := DD_round ok t t 1
  rw [Nat.one_mul, ot, z] at e2
  have e3 : DD p t (t + p.ch.length) = deg p (t + p.ch.length) := by unfold DD; omega
  have e4 : DD p t t = deg p t := by unfold DD; omega
  have e5 : deg p (t + p.ch.length) = deg p t := by rw [← e3, e2, e4]; simp
  exact Prod.ext e5 on1
theorem mod_cancel {x y c n : Nat} (h : y ≤ x) (k : (x + c) % n = (y + c) % n) : x % n = y % n := by
  have z := Nat.sub_mod_eq_zero_of_mod_eq k
  rw [show x + c - (y + c) = x - y by omega] at z
  obtain ⟨q, hq⟩ := Nat.dvd_of_mod_eq_zero z
  rw [show x = y + n * q by omega, Nat.add_mul_mod_self_left]
/-- what leads to two equal beginnings is equal -/
theorem back_eq {p : Par} {e1 f e2 l : Nat} (h1 : Nx p e1 f) (h2 : Nx p e2 l) (s : stt p f = stt p l) (lt : f < l) : ∀ j, j ≤ f - e1 → j ≤ l - e2 → traj p (l - j) = traj p (f - j)
  | 0, _, _ => by
    unfold stt at s
    injection s with _ s
    injection s with s1 s2
    exact Prod.ext s1.symm s2.symm
  | j + 1, a, b => by
    have ih := back_eq h1 h2 s lt j (by omega) (by omega)
    unfold stt at s
    injection s with s0 s
    injection s with s1 s2
    have g1 := h1.1
    have g2 := h2.1
    have o1 : onn p (f - (j + 1)) = onn p e1 := h1.2.1 _ (by omega) (by omega)
    have o2 : onn p (l - (j + 1)) = onn p e2 := h2.2.1 _ (by omega) (by omega)
    have q1 := h1.2.2
    have q2 := h2.2.2
    have oe : onn p (l - (j + 1)) = onn p (f - (j + 1)) := by
      rw [o1, o2]
      rw [s2] at q1
      cases x1 : onn p e1 <;> cases x2 : onn p e2 <;> cases x3 : onn p l <;> simp_all
    have d1 := deg_succ p (f - (j + 1))
    have d2 := deg_succ p (l - (j + 1))
    rw [show f - (j + 1) + 1 = f - j by omega] at d1
    rw [show l - (j + 1) + 1 = l - j by omega] at d2
    have id : deg p (l - j) = deg p (f - j) := congrArg Prod.fst ih
    have ce : chAt p.ch (l - (j + 1)) = chAt p.ch (f - (j + 1)) := by
      unfold chAt
      have : (l - (j + 1)) % p.ch.length = (f - (j + 1)) % p.ch.length := by
        have m : (l - (j + 1)) + (j + 1) = l := by omega
        have m2 : (f - (j + 1)) + (j + 1) = f := by omega
        have k : ((l - (j + 1)) + (j + 1)) % p.ch.length = ((f - (j + 1)) + (j + 1)) % p.ch.length := by rw [m, m2]; exact s0.symm
        exact mod_cancel (by omega) k
      rw [this]
    rw [oe, ce] at d2
    exact Prod.ext (show deg p (l - (j + 1)) = deg p (f - (j + 1)) by omega) oe
/-- what recurrence gives -/
def Rec (p : Par) (bs : List Nat) (back : Option Nat) (r : Option (Nat × Nat)) : Prop :=
  match back with
  | none => ∃ b, bs[bs.length - 1]? = some b ∧ r = if rsum p.ch (gon p.g (onn p b)) = 0 then some (b, p.ch.length) else none
  | some k => ∃ f l, bs[k]? = some f ∧ bs[bs.length - 1]? = some l ∧ ((k = 0 ∧ r = some (f, l - f)) ∨ ∃ k' e1 e2, k = k' + 1 ∧ bs[k']? = some e1 ∧ bs[bs.length - 2]? = some e2 ∧ r = some (f - min (f - e1) (l - e2), l - f))
/-- what share_of_heating gives -/
def Share (p : Par) (bs : List Nat) (back : Option Nat) (top bot : Nat) : Prop :=
  match back with
  | none => ∃ b, bs[bs.length - 1]? = some b ∧ bot = 1 ∧ top = if onn p b then 1 else 0
  | some k => ∃ f l h, bs[k]? = some f ∧ bs[bs.length - 1]? = some l ∧ Hc p l - Hc p f = (h : Nat) ∧ h ≤ l - f ∧ top = h / Nat.gcd h (l - f) ∧ bot = (l - f) / Nat.gcd h (l - f)
theorem Rec.per {p : Par} {bs : List Nat} {back : Option Nat} {f T : Nat} (c : CourseOk p bs back) (h : Rec p bs back (some (f, T))) : Per p f T ∧ 1 ≤ T ∧ f + T ≤ 480100000000000100 := by
  have n1 := c.ok.n1
  have n24 := c.ok.n24
  cases back with
  | none =>
    obtain ⟨b, hb, e⟩ := h
    split at e
    · rename_i z
      cases e
      obtain ⟨_, b', hb', nv⟩ := c.fin rfl
      rw [hb] at hb'; cases hb'
      have := c.far _ _ hb
      exact ⟨level_per c.ok nv z, n1, by omega⟩
    · cases e
  | some k =>
    obtain ⟨f', l, hf, hl, e⟩ := h
    obtain ⟨lt, pe⟩ := c.per rfl hf hl
    have fl := c.far _ _ hl
    rcases e with ⟨rfl, e⟩ | ⟨k', e1, e2, rfl, h1, h2, e⟩
    · cases e
      exact ⟨pe, by omega, by omega⟩
    · cases e
      obtain ⟨_, kl, f'', l'', hf'', hl'', st⟩ := c.rep (k' + 1) rfl
      rw [hf] at hf''; cases hf''
      rw [hl] at hl''; cases hl''
      have x1 := c.chain.2 k' e1 f' h1 hf
      have x2 := c.chain.2 (bs.length - 2) e2 l h2 (by rw [show bs.length - 2 + 1 = bs.length - 1 by omega]; exact hl)
      have be := back_eq x1 x2 st lt
      have g1 := x1.1
      have g2 := x2.1
      refine ⟨fun t ht => ?_, by omega, by omega⟩
      by_cases q : f' ≤ t
      · exact pe t q
      · have := be (f' - t) (by omega) (by omega)
        rw [show l - (f' - t) = t + (l - f') by omega, show f' - (f' - t) = t by omega] at this
        exact this
theorem Rec.none' {p : Par} {bs : List Nat} {back : Option Nat} (h : Rec p bs back none) : back = none := by
  cases back with
  | none => rfl
  | some k =>
    obtain ⟨f', l, hf, hl, e⟩ := h
    rcases e with ⟨_, e⟩ | ⟨_, _, _, _, _, _, e⟩ <;> cases e
theorem nev_heat {p : Par} {b : Nat} (n : Nev p b) (d : Nat) : Hc p (b + d) = Hc p b + (if onn p b then (d : Int) else 0) := by
  have := run_heat (e := b + d) (by omega) (fun t h1 _ => n t h1)
  rw [this, show b + d - b = d by omega]
/-- the heating of a repetition is the share -/
theorem Rec.share {p : Par} {bs : List Nat} {back : Option Nat} {f T top bot : Nat} (c : CourseOk p bs back) (h : Rec p bs back (some (f, T))) (s : Share p bs back top bot) : (Hc p (f + T) - Hc p f) * (bot : Int) = (top : Int) * (T : Int) := by
  obtain ⟨pe, t1, _⟩ := h.per c
  cases back with
  | none =>
    obtain ⟨b, hb, e⟩ := h
    obtain ⟨b2, hb2, eb, et⟩ := s
    rw [hb] at hb2; cases hb2
    split at e
    · cases e
      obtain ⟨_, b', hb', nv⟩ := c.fin rfl
      rw [hb] at hb'; cases hb'
      rw [nev_heat nv, eb, et]
      cases onn p f <;> simp
      omega
    · cases e
  | some k =>
    obtain ⟨f', l, hf, hl, e⟩ := h
    obtain ⟨f2, l2, h2, hf2, hl2, hh, hle, et, eb⟩ := s
    rw [hf] at hf2; cases hf2
    rw [hl] at hl2; cases hl2
    obtain ⟨lt, pe'⟩ := c.per rfl hf hl
    have eT : T = l - f' ∧ f ≤ f' := by
      rcases e with ⟨rfl, e⟩ | ⟨k', e1, e2, rfl, h1, h2, e⟩ <;> cases e
      · exact ⟨rfl, Nat.le_refl _⟩
      · exact ⟨rfl, by omega⟩
    obtain ⟨rfl, lf⟩ := eT
    have q := pe.heat (f' - f)
    rw [Nat.add_sub_cancel' lf, Nat.add_sub_cancel' (Nat.le_of_lt lt), hh] at q
    rw [← q, et, eb]
    have g1 := Nat.gcd_dvd_left h2 (l - f')
    have g2 := Nat.gcd_dvd_right h2 (l - f')
    have z : h2 * ((l - f') / Nat.gcd h2 (l - f')) = h2 / Nat.gcd h2 (l - f') * (l - f') := by
      rw [← Nat.mul_div_assoc _ g2, Nat.mul_comm (h2 / _), ← Nat.mul_div_assoc _ g1, Nat.mul_comm]
    have := congrArg (fun n : Nat => (n : Int)) z
    simpa using this
theorem Share.ok {p : Par} {bs : List Nat} {back : Option Nat} {top bot : Nat} (c : CourseOk p bs back) (s : Share p bs back top bot) : 1 ≤ bot ∧ top ≤ bot ∧ Nat.gcd top bot = 1 := by
  cases back with
  | none =>
    obtain ⟨b, hb, rfl, rfl⟩ := s
    cases onn p b <;> simp
  | some k =>
    obtain ⟨f, l, h, hf, hl, hh, hle, rfl, rfl⟩ := s
    obtain ⟨lt, _⟩ := c.per rfl hf hl
    have g0 : 0 < Nat.gcd h (l - f) := Nat.gcd_pos_of_pos_right _ (by omega)
    have g2 := Nat.gcd_dvd_right h (l - f)
    refine ⟨Nat.div_pos (Nat.le_of_dvd (by omega) g2) g0, Nat.div_le_div_right hle, ?_⟩
    rw [Nat.gcd_div (Nat.gcd_dvd_left h (l - f)) g2, Nat.div_self g0]
/-- all the heating there is -/
theorem Share.ever {p : Par} {bs : List Nat} {top bot : Nat} (c : CourseOk p bs none) (s : Share p bs none top bot) : bot = 1 ∧ top = if onn p 1000000000000000000 then 1 else 0 := by
  obtain ⟨b, hb, e1, e2⟩ := s
  obtain ⟨_, b', hb', nv⟩ := c.fin rfl
  rw [hb] at hb'; cases hb'
  have := c.far _ _ hb
  rw [nv 1000000000000000000 (by omega)]
  exact ⟨e1, e2⟩
end Th

/-! temperatures and begins by the place of a tick: plain Lean -/
namespace Th
theorem Pl.degs {p : Par} {bs : List Nat} {back : Option Nat} {t r i t' b : Nat} (h : CourseOk p bs back) (q : Pl p bs back t r i t') (hb : bs[i]? = some b) : Dg p.ch (gon p.g (onn p b)) (baB p b) t' = deg p t := by
  obtain ⟨le, run⟩ := q.stay h hb
  have e1 := run_deg le (fun u h1 h2 => run u h1 (by omega))
  have e2 : deg p t = deg p t' := congrArg Prod.fst (q.again h)
  have e3 := Dg_B p b t'
  unfold ggB DD at e3
  omega
/-- how many stretches begin in a tick or before it -/
def Cn (p : Par) : Nat → Nat
  | 0 => 1
  | t + 1 => Cn p t + (if onn p (t + 1) = onn p t then 0 else 1)
theorem Cn_pos (p : Par) : ∀ t, 1 ≤ Cn p t
  | 0 => Nat.le_refl _
  | t + 1 => by have := Cn_pos p t; show 1 ≤ Cn p t + _; omega
theorem Cn_le (p : Par) : ∀ t, Cn p t ≤ t + 1
  | 0 => Nat.le_refl _
  | t + 1 => by
    have := Cn_le p t
    show Cn p t + (if onn p (t + 1) = onn p t then 0 else 1) ≤ t + 1 + 1
    split <;> omega
theorem Cn_run {p : Par} {b : Nat} : ∀ {d : Nat}, Run p b (b + d + 1) → Cn p (b + d) = Cn p b
  | 0, _ => rfl
  | d + 1, r => by
    have ih := Cn_run (d := d) (fun u h1 h2 => r u h1 (by omega))
    show Cn p (b + d) + (if onn p (b + d + 1) = onn p (b + d) then 0 else 1) = Cn p b
    rw [if_pos ((r (b + d + 1) (by omega) (by omega)).trans (r (b + d) (by omega) (by omega)).symm), ih]; rfl
theorem Cn_nx {p : Par} {b e : Nat} (n : Nx p b e) : Cn p e = Cn p b + 1 := by
  obtain ⟨lt, r, ne⟩ := n
  obtain ⟨d, rfl⟩ : ∃ d, e = b + d + 1 := ⟨e - b - 1, by omega⟩
  show Cn p (b + d) + (if onn p (b + d + 1) = onn p (b + d) then 0 else 1) = Cn p b + 1
  rw [Cn_run r, if_neg (fun h => ne (h.trans (r (b + d) (by omega) (by omega))))]
theorem Chain.cn {p : Par} {bs : List Nat} (h : Chain p bs) : ∀ {i b : Nat}, bs[i]? = some b → Cn p b = i + 1
  | 0, b, e => by rw [h.1] at e; cases e; rfl
  | i + 1, b, e => by
    obtain ⟨a, ha⟩ := at_some (bs := bs) (i := i) (by have := at_lt e; omega)
    rw [Cn_nx (h.2 i a b ha e), h.cn ha]
theorem Per.cns {p : Par} {f T : Nat} (h : Per p f T) : ∀ j, Cn p (f + j + T) + Cn p f = Cn p (f + j) + Cn p (f + T)
  | 0 => by rw [Nat.add_zero, Nat.add_comm]
  | j + 1 => by
    have ih := h.cns j
    have e0 : onn p (f + j + T) = onn p (f + j) := congrArg Prod.snd (h (f + j) (by omega))
    have e1 : onn p (f + j + 1 + T) = onn p (f + j + 1) := congrArg Prod.snd (h (f + j + 1) (by omega))
    have c1 : Cn p (f + (j + 1) + T) = Cn p (f + j + T) + (if onn p (f + j + T + 1) = onn p (f + j + T) then 0 else 1) := by
      rw [show f + (j + 1) + T = (f + j + T) + 1 by omega]; rfl
    have c2 : Cn p (f + (j + 1)) = Cn p (f + j) + (if onn p (f + j + 1) = onn p (f + j) then 0 else 1) := rfl
    rw [c1, c2, e0, show f + j + T + 1 = f + j + 1 + T by omega, e1]
    omega
theorem Per.cnm {p : Par} {f T : Nat} (h : Per p f T) {t : Nat} (ht : f ≤ t) : ∀ m : Nat, Cn p (t + m * T) + m * Cn p f = Cn p t + m * Cn p (f + T)
  | 0 => by simp
  | m + 1 => by
    have ih := h.cnm ht m
    have e := h.cns (t + m * T - f)
    rw [show f + (t + m * T - f) = t + m * T by omega] at e
    rw [Nat.succ_mul, ← Nat.add_assoc, Nat.succ_mul, Nat.succ_mul]
    omega
theorem Pl.cn {p : Par} {bs : List Nat} {back : Option Nat} {t r i t' : Nat} (h : CourseOk p bs back) (q : Pl p bs back t r i t') : Cn p t' = i + 1 ∧ (r = 0 → t = t') ∧ ∀ k, back = some k → 0 < r → k + 1 < bs.length ∧ Cn p t = i + 1 + r * (bs.length - 1 - k) := by
  obtain ⟨b, hb, le, nx⟩ := q.at'
  obtain ⟨_, run⟩ := q.stay h hb
  have c1 : Cn p t' = i + 1 := by
    obtain ⟨d, rfl⟩ : ∃ d, t' = b + d := ⟨t' - b, by omega⟩
    rw [Cn_run run, h.chain.cn hb]
  refine ⟨c1, (q.heat h hb).2.1, fun k eb hr => ?_⟩
  obtain ⟨_, kl, f, l, hf, hl, st⟩ := h.rep k eb
  obtain ⟨e1, e2, e3⟩ := q.som k f l eb hf hl
  obtain ⟨lt, pe⟩ := h.per eb hf hl
  have z := pe.cnm (e3 hr) r
  rw [Nat.add_sub_cancel' (Nat.le_of_lt lt), ← e1, h.chain.cn hf, h.chain.cn hl, c1] at z
  refine ⟨kl, ?_⟩
  have e4 : r * (bs.length - 1 + 1) = r * (k + 1) + r * (bs.length - 1 - k) := by rw [← Nat.mul_add]; congr 1; omega
  omega
end Th

/-! the repetition told is the first and the shortest; without repetition the temperature goes on: plain Lean -/
namespace Th
theorem nx_fb {p : Par} (ok : p.lo ≤ p.hi) {b e : Nat} (n : Nx p b e) : FB p.ch (ggB p b) (baB p b) b (sgB p b) (bdB p b) (some e) := by
  obtain ⟨lt, r, ne⟩ := n
  have key : ∀ t, b < t → t ≤ e → Dg p.ch (ggB p b) (baB p b) t = deg p t ∧ onn p t = hst (deg p t) p.lo p.hi (onn p b) := fun t h1 h2 => by
    obtain ⟨u, rfl⟩ : ∃ u, t = u + 1 := ⟨t - 1, by omega⟩
    have e1 := run_deg (e := u + 1) (by omega) (fun v a c => r v a (by omega))
    refine ⟨by rw [Dg_B]; unfold DD; omega, ?_⟩
    rw [onn_succ, r u (by omega) (by omega)]
  refine ⟨lt, ?_, fun t h1 h2 hb => ?_⟩
  · obtain ⟨k1, k2⟩ := key e lt (Nat.le_refl _)
    rw [k1]
    refine Decidable.byContradiction fun nb => ne ?_
    rw [k2]
    exact (hst_stay ok).mpr nb
  · obtain ⟨k1, k2⟩ := key t h1 (Nat.le_of_lt h2)
    rw [k1] at hb
    have q := r t (Nat.le_of_lt h1) h2
    rw [k2] at q
    exact (hst_stay ok).mp q hb
/-- thresholds and start are near each other -/
structure Near (p : Par) : Prop where
  band : p.hi - p.lo ≤ 100000000000
  s1 : p.lo - 200000000000 ≤ p.st
  s2 : p.st ≤ p.lo + 300000000000
theorem late2 {p : Par} (ok : p.Ok) (nr : Near p) {b e : Nat} (hb : Beg p b) (h : FB p.ch (ggB p b) (baB p b) b (sgB p b) (bdB p b) (some e)) : e ≤ b + 7300000000000 := by
  have n1 := ok.n1
  have n24 := ok.n24
  have nb := nr.band
  have ns1 := nr.s1
  have ns2 := nr.s2
  have lh := ok.lohi
  by_cases hg : sgB p b * (bdB p b - Dg p.ch (ggB p b) (baB p b) (b + 1)) < 0
  · obtain ⟨h1, h2, h3⟩ := h
    have : e ≤ b + 1 := Nat.le_of_not_lt fun hlt => h3 (b + 1) (by omega) hlt hg
    omega
  · by_cases hs : 0 < sgB p b * rsum p.ch (ggB p b)
    · have l := fb_late n1 hs h (by omega)
      have gp : sgB p b * (bdB p b - Dg p.ch (ggB p b) (baB p b) (b + 1)) ≤ 300000000500 := by
        rw [Dg_B]
        have c := chAt_bd ok b
        have bd : (onn p b = true → p.lo - 200000000000 ≤ deg p b) ∧ (onn p b = false → deg p b ≤ p.lo + 300000000300) := by
          rcases hb with rfl | r
          · have e : deg p 0 = p.st := rfl
            rw [e]
            constructor <;> intro _ <;> omega
          · constructor
            · intro o; have := r.1 o; omega
            · intro o; have := r.2 o; omega
        have := ok.g1
        have := ok.g200
        have es : sumTo p.ch (gon p.g (onn p b)) (b + 1) = sumTo p.ch (gon p.g (onn p b)) b + chAt p.ch b + gon p.g (onn p b) := rfl
        unfold DD
        rw [es]
        cases o : onn p b
        · have q := bd.2 o
          unfold sgB bdB sgnOf bndOf gon
          rw [o]
          simp
          omega
        · have q := bd.1 o
          unfold sgB bdB sgnOf bndOf gon
          rw [o]
          simp
          omega
      unfold cand at l
      rw [Nat.add_zero] at l
      generalize sgB p b * (bdB p b - Dg p.ch (ggB p b) (baB p b) (b + 1)) = gap at *
      generalize sgB p b * rsum p.ch (ggB p b) = sp at *
      have q1 : gap / sp ≤ gap := Int.ediv_le_self _ (by omega)
      have q2 : (gap / sp + 1).toNat ≤ 300000000501 := by omega
      have q3 := Nat.mul_le_mul q2 n24
      omega
    · obtain ⟨h1, h2, h3⟩ := h
      have : e ≤ b + p.ch.length := Nat.le_of_not_lt fun hlt => by
        refine fb_none (b := b) (bound := bdB p b) (base := baB p b) n1 (show sgB p b * rsum p.ch (ggB p b) ≤ 0 by omega) (fun i hi => h3 (b + 1 + i) (by omega) (by omega)) e h1 h2
      omega
theorem near_begins {p : Par} {bs : List Nat} (ok : p.Ok) (nr : Near p) (h : Chain p bs) : ∀ (i b : Nat), bs[i]? = some b → b ≤ i * 7300000000000
  | 0, b, e => by rw [h.1] at e; cases e; exact Nat.zero_le _
  | i + 1, b, e => by
    obtain ⟨a, ha⟩ := at_some (bs := bs) (i := i) (by have := at_lt e; omega)
    have ih := near_begins ok nr h i a ha
    have := late2 ok nr (chain_beg ok h ha) (nx_fb ok.lohi (h.2 i a b ha e))
    rw [Nat.succ_mul]
    omega
theorem CourseOk.near {p : Par} {bs : List Nat} {back : Option Nat} (c : CourseOk p bs back) (nr : Near p) {i b : Nat} (e : bs[i]? = some b) : b ≤ 70094600000000000 := by
  have q := near_begins c.ok nr c.chain i b e
  have l := at_lt e
  have l2 := c.len
  have : i * 7300000000000 ≤ 9602 * 7300000000000 := Nat.mul_le_mul_right _ (by omega)
  omega
/-- each tick has its stretch -/
theorem place_ex {bs : List Nat} (h0 : bs[0]? = some 0) (t : Nat) : ∃ (i b : Nat), bs[i]? = some b ∧ b ≤ t ∧ ∀ c, bs[i + 1]? = some c → t < c := by
  have key : ∀ n : Nat, (∃ (i b : Nat), bs[i]? = some b ∧ b ≤ t ∧ ∀ c, bs[i + 1]? = some c → t < c) ∨ ∃ b, bs[n]? = some b ∧ b ≤ t := fun n => by
    induction n with
    | zero => exact .inr ⟨0, h0, Nat.zero_le _⟩
    | succ n ih =>
      rcases ih with ih | ⟨b, hb, le⟩
      · exact .inl ih
      · cases e : bs[n + 1]? with
        | none => exact .inl ⟨n, b, hb, le, fun c hc => by rw [e] at hc; cases hc⟩
        | some c =>
          by_cases lt : t < c
          · exact .inl ⟨n, b, hb, le, fun c' hc => by rw [e] at hc; cases hc; exact lt⟩
          · exact .inr ⟨c, rfl, by omega⟩
  rcases key bs.length with k | ⟨b, hb, _⟩
  · exact k
  · have := at_lt hb; omega
theorem is_begin {p : Par} {bs : List Nat} (h : Chain p bs) {t l : Nat} (hl : bs[bs.length - 1]? = some l) (h1 : 0 < t) (h2 : t ≤ l) (h3 : onn p t ≠ onn p (t - 1)) : ∃ j : Nat, bs[j]? = some t := by
  obtain ⟨i, b, hb, le, nx⟩ := place_ex h.1 t
  by_cases e : b = t
  · exact ⟨i, by rw [hb, e]⟩
  · exfalso
    by_cases c : i + 1 < bs.length
    · obtain ⟨d, hd⟩ := at_some c
      have r := (h.2 i b d hb hd).2.1
      have lt := nx d hd
      exact h3 ((r t le lt).trans (r (t - 1) (by omega) (by omega)).symm)
    · have il := at_lt hb
      have ei : i = bs.length - 1 := by omega
      rw [← ei, hb] at hl
      cases hl
      omega
/-- not from the tick before -/
theorem Rec.first {p : Par} {bs : List Nat} {back : Option Nat} {f T : Nat} (c : CourseOk p bs back) (h : Rec p bs back (some (f, T))) (hf : 0 < f) : onn p (f - 1) ≠ onn p (f - 1 + T) := by
  have n1 := c.ok.n1
  cases back with
  | none =>
    obtain ⟨b, hb, e⟩ := h
    split at e
    · cases e
      obtain ⟨_, b', hb', nv⟩ := c.fin rfl
      rw [hb] at hb'; cases hb'
      have m2 : bs.length - 1 ≠ 0 := fun z => by rw [z, c.chain.1] at hb; cases hb; omega
      obtain ⟨e2, he2⟩ := at_some (bs := bs) (i := bs.length - 2) (by omega)
      have nx := c.chain.2 (bs.length - 2) e2 f he2 (by rw [show bs.length - 2 + 1 = bs.length - 1 by omega]; exact hb)
      have g := nx.1
      rw [nx.2.1 (f - 1) (by omega) (by omega), nv (f - 1 + p.ch.length) (by omega)]
      exact fun q => nx.2.2 q.symm
    · cases e
  | some k =>
    obtain ⟨f', l, hf', hl, e⟩ := h
    obtain ⟨lt, pe⟩ := c.per rfl hf' hl
    obtain ⟨di, kl, f'', l'', hf'', hl'', st⟩ := c.rep k rfl
    rw [hf'] at hf''; cases hf''
    rw [hl] at hl''; cases hl''
    rcases e with ⟨rfl, e⟩ | ⟨k', e1, e2, rfl, h1, h2, e⟩
    · cases e
      rw [c.chain.1] at hf'; cases hf'
      omega
    · cases e
      have x1 := c.chain.2 k' e1 f' h1 hf'
      have x2 := c.chain.2 (bs.length - 2) e2 l h2 (by rw [show bs.length - 2 + 1 = bs.length - 1 by omega]; exact hl)
      have g1 := x1.1
      have g2 := x2.1
      have oe : onn p e1 = onn p e2 := by
        have q1 := x1.2.2
        have q2 := x2.2.2
        have : onn p f' = onn p l := by
          unfold stt at st
          simp only [Prod.mk.injEq] at st
          exact st.2.2
        cases y1 : onn p e1 <;> cases y2 : onn p e2 <;> cases y3 : onn p l <;> simp_all
      by_cases cmp : f' - e1 ≤ l - e2
      · rw [Nat.min_eq_left cmp] at hf ⊢
        have ef : f' - (f' - e1) = e1 := by omega
        rw [ef] at hf ⊢
        -- the stretch before e1
        have k1 : k' ≠ 0 := fun z => by subst z; rw [c.chain.1] at h1; cases h1; omega
        obtain ⟨e0, he0⟩ := at_some (bs := bs) (i := k' - 1) (by have := at_lt h1; omega)
        have x0 := c.chain.2 (k' - 1) e0 e1 he0 (by rw [show k' - 1 + 1 = k' by omega]; exact h1)
        have g0 := x0.1
        have o0 : onn p (e1 - 1) = onn p e0 := x0.2.1 _ (by omega) (by omega)
        by_cases eq : f' - e1 = l - e2
        · exfalso
          have be := back_eq x1 x2 st lt (f' - e1) (Nat.le_refl _) (by omega)
          rw [show l - (f' - e1) = e2 by omega, ef] at be
          have mm : e1 % p.ch.length = e2 % p.ch.length := by
            have s0 : f' % p.ch.length = l % p.ch.length := by
              unfold stt at st
              simp only [Prod.mk.injEq] at st
              exact st.1
            have := mod_cancel (x := e2) (y := e1) (c := f' - e1) (n := p.ch.length) (by
              have := c.chain.lt' (show k' < bs.length - 2 by omega) h1 h2
              omega) (by rw [show e2 + (f' - e1) = l by omega, show e1 + (f' - e1) = f' by omega]; exact s0.symm)
            exact this.symm
          refine di k' (bs.length - 2) e1 e2 (by omega) (by omega) h1 h2 ?_
          unfold stt
          rw [mm, show deg p e1 = deg p e2 from (congrArg Prod.fst be).symm, show onn p e1 = onn p e2 from (congrArg Prod.snd be).symm]
        · have o2 : onn p (e1 - 1 + (l - f')) = onn p e2 := x2.2.1 _ (by omega) (by omega)
          rw [o0, o2, ← oe]
          exact fun q => x0.2.2 q.symm
      · rw [Nat.min_eq_right (by omega)] at hf ⊢
        have o1 : onn p (f' - (l - e2) - 1) = onn p e1 := x1.2.1 _ (by omega) (by omega)
        -- the stretch before e2
        have m3 : bs.length - 2 ≠ 0 := by omega
        obtain ⟨e0, he0⟩ := at_some (bs := bs) (i := bs.length - 3) (by omega)
        have x0 := c.chain.2 (bs.length - 3) e0 e2 he0 (by rw [show bs.length - 3 + 1 = bs.length - 2 by omega]; exact h2)
        have g0 := x0.1
        have o0 : onn p (e2 - 1) = onn p e0 := x0.2.1 _ (by omega) (by omega)
        rw [o1, show f' - (l - e2) - 1 + (l - f') = e2 - 1 by omega, o0, oe]
        exact x0.2.2
/-- not after fewer ticks -/
theorem Rec.least {p : Par} {bs : List Nat} {back : Option Nat} {f T s : Nat} (c : CourseOk p bs back) (h : Rec p bs back (some (f, T))) (s0 : 0 < s) (s1 : s < T) (sn : s % p.ch.length = 0) (sT : T % s = 0) : ∃ t, f ≤ t ∧ t + s < f + T ∧ traj p (t + s) ≠ traj p t := by
  refine Classical.byContradiction fun no => ?_
  have all : ∀ t, f ≤ t → t + s < f + T → traj p (t + s) = traj p t := fun t h1 h2 => Classical.byContradiction fun q => no ⟨t, h1, h2, q⟩
  have n1 := c.ok.n1
  have e0 := all f (Nat.le_refl _) (by omega)
  have me : ∀ t, (t + s) % p.ch.length = t % p.ch.length := fun t => by
    rw [Nat.add_mod, sn, Nat.add_zero, Nat.mod_mod]
  have ste : ∀ t, traj p (t + s) = traj p t → stt p t = stt p (t + s) := fun t q => by
    unfold stt
    rw [me t, show deg p (t + s) = deg p t from congrArg Prod.fst q, show onn p (t + s) = onn p t from congrArg Prod.snd q]
  have ps : Per p f s := by
    have := per_of (ste f e0) (by omega)
    rw [show f + s - f = s by omega] at this
    exact this
  cases back with
  | none =>
    obtain ⟨b, hb, e⟩ := h
    split at e
    · cases e
      rw [Nat.mod_eq_of_lt s1] at sn
      omega
    · cases e
  | some k =>
    obtain ⟨f', l, hf', hl, e⟩ := h
    obtain ⟨lt, pe⟩ := c.per rfl hf' hl
    obtain ⟨di, kl, f'', l'', hf'', hl'', st⟩ := c.rep k rfl
    rw [hf'] at hf''; cases hf''
    rw [hl] at hl''; cases hl''
    rcases e with ⟨rfl, e⟩ | ⟨k', e1, e2, rfl, h1, h2, e⟩
    · cases e
      rw [c.chain.1] at hf'; cases hf'
      obtain ⟨e2, he2⟩ := at_some (bs := bs) (i := bs.length - 2) (by omega)
      have x2 := c.chain.2 (bs.length - 2) e2 l he2 (by rw [show bs.length - 2 + 1 = bs.length - 1 by omega]; exact hl)
      have g2 := x2.1
      have two : 2 * s ≤ l := by
        obtain ⟨q, hq⟩ := Nat.dvd_of_mod_eq_zero sT
        rw [Nat.sub_zero] at hq s1
        have : q ≠ 0 := fun z => by subst z; omega
        have : q ≠ 1 := fun z => by subst z; omega
        have := Nat.mul_le_mul_left s (show 2 ≤ q by omega)
        omega
      have a1 := ps (l - s) (by omega)
      have a2 := ps (l - s - 1) (by omega)
      rw [show l - s + s = l by omega] at a1
      rw [show l - s - 1 + s = l - 1 by omega] at a2
      have sw : onn p (l - s) ≠ onn p (l - s - 1) := by
        rw [show onn p (l - s) = onn p l from (congrArg Prod.snd a1).symm, show onn p (l - s - 1) = onn p (l - 1) from (congrArg Prod.snd a2).symm, x2.2.1 (l - 1) (by omega) (by omega)]
        exact x2.2.2
      obtain ⟨j, hj⟩ := is_begin c.chain hl (by omega) (by omega) sw
      have jl := at_lt hj
      have j0 : j ≠ 0 := fun z => by subst z; rw [c.chain.1] at hj; injection hj with hj; omega
      have jm : j ≠ bs.length - 1 := fun z => by subst z; rw [hl] at hj; injection hj with hj; omega
      refine di 0 j 0 (l - s) (by omega) (by omega) c.chain.1 hj ?_
      rw [st]
      have := ste (l - s) (by rw [show l - s + s = l by omega]; exact a1)
      rw [show l - s + s = l by omega] at this
      exact this.symm
    · cases e
      have x1 := c.chain.2 k' e1 f' h1 hf'
      have x2 := c.chain.2 (bs.length - 2) e2 l h2 (by rw [show bs.length - 2 + 1 = bs.length - 1 by omega]; exact hl)
      have g1 := x1.1
      have g2 := x2.1
      have a1 := ps f' (by omega)
      have a2 := ps (f' - 1) (by omega)
      have sw : onn p (f' + s) ≠ onn p (f' + s - 1) := by
        rw [show onn p (f' + s) = onn p f' from congrArg Prod.snd a1, show f' + s - 1 = f' - 1 + s by omega, show onn p (f' - 1 + s) = onn p (f' - 1) from congrArg Prod.snd a2, x1.2.1 (f' - 1) (by omega) (by omega)]
        exact x1.2.2
      obtain ⟨j, hj⟩ := is_begin c.chain hl (by omega) (by omega) sw
      have jl := at_lt hj
      have jk : k' + 1 < j := Nat.lt_of_not_le fun z => by
        have := c.chain.le' z hj hf'
        omega
      have jm : j ≠ bs.length - 1 := fun z => by subst z; rw [hl] at hj; injection hj with hj; omega
      exact di (k' + 1) j f' (f' + s) jk (by omega) hf' hj (ste f' a1)
/-- the ticks are whole rounds -/
theorem Rec.rounds {p : Par} {bs : List Nat} {back : Option Nat} {f T : Nat} (c : CourseOk p bs back) (h : Rec p bs back (some (f, T))) : T % p.ch.length = 0 := by
  cases back with
  | none =>
    obtain ⟨b, hb, e⟩ := h
    split at e
    · cases e; exact Nat.mod_self _
    · cases e
  | some k =>
    obtain ⟨f', l, hf', hl, e⟩ := h
    obtain ⟨lt, pe⟩ := c.per rfl hf' hl
    obtain ⟨di, kl, f'', l'', hf'', hl'', st⟩ := c.rep k rfl
    rw [hf'] at hf''; cases hf''
    rw [hl] at hl''; cases hl''
    have s0 : f' % p.ch.length = l % p.ch.length := by
      unfold stt at st
      simp only [Prod.mk.injEq] at st
      exact st.1
    have eT : T = l - f' := by
      rcases e with ⟨_, e⟩ | ⟨_, _, _, _, _, _, e⟩ <;> cases e <;> rfl
    rw [eT]
    exact Nat.sub_mod_eq_zero_of_mod_eq s0.symm
/-- without repetition: a line for ever -/
theorem Rec.line {p : Par} {bs : List Nat} {back : Option Nat} (c : CourseOk p bs back) (nr : Near p) (h : Rec p bs back none) : ∃ d : Int, d ≠ 0 ∧ (∀ t, 90000000000000000 ≤ t → deg p (t + p.ch.length) = deg p t + d) ∧ ∀ t u, 90000000000000000 ≤ t → 90000000000000000 ≤ u → Cn p t = Cn p u := by
  obtain rfl := h.none'
  obtain ⟨b, hb, e⟩ := h
  obtain ⟨_, b', hb', nv⟩ := c.fin rfl
  rw [hb] at hb'; cases hb'
  have bn := c.near nr hb
  have nz : rsum p.ch (gon p.g (onn p b)) ≠ 0 := fun z => by rw [if_pos z] at e; cases e
  refine ⟨_, nz, fun t ht => ?_, ?_⟩
  · have ot : onn p t = onn p b := nv t (by omega)
    have r : Run p t (t + p.ch.length) := fun u h1 h2 => (nv u (by omega)).trans ot.symm
    have e1 := run_deg (by omega) r
    have e2 := DD_round c.ok t t 1
    rw [Nat.one_mul, ot] at e2
    have e3 : DD p t (t + p.ch.length) = deg p (t + p.ch.length) := by unfold DD; omega
    have e4 : DD p t t = deg p t := by unfold DD; omega
    rw [← e3, e2, e4]
    simp
  · have key : ∀ t, 90000000000000000 ≤ t → Cn p t = Cn p b := fun t ht => by
      obtain ⟨d, rfl⟩ : ∃ d, t = b + d := ⟨t - b, by omega⟩
      exact Cn_run (fun u h1 h2 => nv u h1)
    intro t u h1 h2
    rw [key t h1, key u h2]
end Th

/-! the begins by number: plain Lean -/
namespace Th
/-- the tick in which the stretch with a number begins -/
def Nb (p : Par) (n : Nat) (r : Option Nat) : Prop :=
  match r with
  | some t => Cn p t = n + 1 ∧ (t = 0 ∨ onn p t ≠ onn p (t - 1))
  | none => ∀ t, Cn p t ≤ n
theorem Nx.sw {p : Par} {b e : Nat} (n : Nx p b e) : onn p e ≠ onn p (e - 1) := by
  rw [n.2.1 (e - 1) (by have := n.1; omega) (by have := n.1; omega)]
  exact n.2.2
theorem nb_kept {p : Par} {bs : List Nat} (h : Chain p bs) {n b : Nat} (hb : bs[n]? = some b) : Nb p n (some b) := by
  refine ⟨h.cn hb, ?_⟩
  cases n with
  | zero => rw [h.1] at hb; cases hb; exact .inl rfl
  | succ n =>
    obtain ⟨a, ha⟩ := at_some (bs := bs) (i := n) (by have := at_lt hb; omega)
    exact .inr (h.2 n a b ha hb).sw
theorem nb_none {p : Par} {bs : List Nat} (c : CourseOk p bs none) {n : Nat} (hn : bs.length ≤ n) : Nb p n none := fun t => by
  obtain ⟨i, b, hb, le, nx⟩ := place_ex c.chain.1 t
  have il := at_lt hb
  have q : Pl p bs none t 0 i t := ⟨⟨b, hb, le, nx⟩, fun _ => ⟨rfl, rfl⟩, fun _ _ _ e => nomatch e⟩
  have := (q.cn c).1
  omega
theorem nb_rep {p : Par} {bs : List Nat} {k : Nat} (c : CourseOk p bs (some k)) {n b f l : Nat} (hn : bs.length ≤ n) (hf : bs[k]? = some f) (hl : bs[bs.length - 1]? = some l)
    (hb : bs[k + (n - k) % (bs.length - 1 - k)]? = some b) : Nb p n (some (b + (n - k) / (bs.length - 1 - k) * (l - f))) := by
  obtain ⟨lt, pe⟩ := c.per rfl hf hl
  obtain ⟨_, kl, f', l', hf', hl', st⟩ := c.rep k rfl
  have dm := Nat.div_add_mod (n - k) (bs.length - 1 - k)
  have ml := Nat.mod_lt (n - k) (show 0 < bs.length - 1 - k by omega)
  generalize (n - k) % (bs.length - 1 - k) = rest at *
  have r1 : 1 ≤ (n - k) / (bs.length - 1 - k) := Nat.div_pos (by omega) (by omega)
  generalize (n - k) / (bs.length - 1 - k) = r at *
  have fb : f ≤ b := c.chain.le' (by omega) hf hb
  have z := pe.cnm fb r
  rw [Nat.add_sub_cancel' (Nat.le_of_lt lt), c.chain.cn hf, c.chain.cn hl, c.chain.cn hb] at z
  have e4 : r * (bs.length - 1 + 1) = r * (k + 1) + r * (bs.length - 1 - k) := by rw [← Nat.mul_add]; congr 1; omega
  rw [Nat.mul_comm] at dm
  refine ⟨by omega, .inr ?_⟩
  by_cases r0 : rest = 0
  · subst r0
    rw [Nat.add_zero, hf] at hb
    cases hb
    obtain ⟨q, rfl⟩ : ∃ q, r = q + 1 := ⟨r - 1, by omega⟩
    obtain ⟨e2, he2⟩ := at_some (bs := bs) (i := bs.length - 2) (by omega)
    have x2 := c.chain.2 (bs.length - 2) e2 l he2 (by rw [show bs.length - 2 + 1 = bs.length - 1 by omega]; exact hl)
    have a1 := pe.times (t := l) (Nat.le_of_lt lt) q
    have a2 := pe.times (t := l - 1) (by omega) q
    have e5  : b + (q + 1) * (l - b) = l + q * (l - b) := by rw [Nat.succ_mul]; omega
    rw [e5, show l + q * (l - b) - 1 = l - 1 + q * (l - b) by omega, show onn p (l + q * (l - b)) = onn p l from congrArg Prod.snd a1, show onn p (l - 1 + q * (l - b)) = onn p (l - 1) from congrArg Prod.snd a2]
    exact x2.sw
  · obtain ⟨e1, he1⟩ := at_some (bs := bs) (i := k + rest - 1) (by have := at_lt hb; omega)
    have x1 := c.chain.2 (k + rest - 1) e1 b he1 (by rw [show k + rest - 1 + 1 = k + rest by omega]; exact hb)
    have lt2 := c.chain.lt' (show k < k + rest by omega) hf hb
    have a1 := pe.times fb r
    have a2 := pe.times (t := b - 1) (by omega) r
    rw [show b + r * (l - f) - 1 = b - 1 + r * (l - f) by omega, show onn p (b + r * (l - f)) = onn p b from congrArg Prod.snd a1, show onn p (b - 1 + r * (l - f)) = onn p (b - 1) from congrArg Prod.snd a2]
    exact x1.sw
end Th

/-! the most extreme temperature: plain Lean -/
namespace Th
/-- the first greatest of sg * F in the ticks from a to the one before b -/
def Mx (F : Nat → Int) (sg : Int) (a b : Nat) (r : Option (Int × Nat)) : Prop :=
  match r with
  | none => b ≤ a
  | some (d, t) => a ≤ t ∧ t < b ∧ F t = d ∧ (∀ u, a ≤ u → u < b → sg * F u ≤ sg * d) ∧ ∀ u, a ≤ u → u < t → sg * F u < sg * d
/-- more_extreme -/
def mox (sg : Int) (r : Option (Int × Nat)) (x : Int × Nat) : Int × Nat :=
  match r with
  | none => x
  | some y => if sg * (x.1 - y.1) > 0 then x else y
theorem Mx.join {F : Nat → Int} {sg : Int} {a b c : Nat} {r : Option (Int × Nat)} {x : Int × Nat} (h : Mx F sg a b r) (ab : a ≤ b) (g : Mx F sg b c (some x)) : Mx F sg a c (some (mox sg r x)) := by
  obtain ⟨d2, t2⟩ := x
  obtain ⟨g1, g2, g3, g4, g5⟩ := g
  match r, h with
  | none, h =>
    have : a = b := by
      have h : b ≤ a := h
      omega
    subst this
    exact ⟨g1, g2, g3, g4, g5⟩
  | some (d1, t1), ⟨h1, h2, h3, h4, h5⟩ =>
    show Mx F sg a c (some (if sg * (d2 - d1) > 0 then (d2, t2) else (d1, t1)))
    rw [Int.mul_sub]
    by_cases q : sg * d2 - sg * d1 > 0
    · rw [if_pos q]
      refine ⟨by omega, g2, g3, fun u u1 u2 => ?_, fun u u1 u2 => ?_⟩
      · by_cases z : u < b
        · have := h4 u u1 z; omega
        · exact g4 u (by omega) u2
      · by_cases z : u < b
        · have := h4 u u1 z; omega
        · exact g5 u (by omega) u2
    · rw [if_neg q]
      refine ⟨h1, by omega, h3, fun u u1 u2 => ?_, h5⟩
      by_cases z : u < b
      · exact h4 u u1 z
      · have := g4 u (by omega) u2; omega
theorem Mx.one (F : Nat → Int) (sg : Int) (b : Nat) : Mx F sg b (b + 1) (some (F b, b)) :=
  ⟨Nat.le_refl _, Nat.lt_succ_self _, rfl, fun u h1 h2 => by
    obtain rfl : u = b := by omega
    exact Int.le_refl _, fun u h1 h2 => by omega⟩
theorem Mx.congr {F G : Nat → Int} {sg : Int} {a b : Nat} {r : Option (Int × Nat)} (h : Mx F sg a b r) (e : ∀ u, a ≤ u → u < b → F u = G u) : Mx G sg a b r := by
  match r, h with
  | none, h => exact h
  | some (d, t), ⟨h1, h2, h3, h4, h5⟩ =>
    exact ⟨h1, h2, by rw [← e t h1 h2]; exact h3, fun u u1 u2 => by rw [← e u u1 u2]; exact h4 u u1 u2, fun u u1 u2 => by rw [← e u u1 (by omega)]; exact h5 u u1 u2⟩
/-- falling rounds: the first round tells all -/
theorem Mx.first {F : Nat → Int} {sg R : Int} {n a b c : Nat} {r : Option (Int × Nat)} (n1 : 1 ≤ n) (st : ∀ u, F (u + n) = F u + R) (s : sg * R ≤ 0) (hb : b = min (a + n) c) (ac : a < c) (h : Mx F sg a b r) : Mx F sg a c r := by
  have down : ∀ k u, sg * F (u + k * n) ≤ sg * F u := fun k u => by
    induction k with
    | zero => rw [Nat.zero_mul, Nat.add_zero]; exact Int.le_refl _
    | succ k ih =>
      rw [Nat.succ_mul, ← Nat.add_assoc, st, Int.mul_add]
      omega
  match r, h with
  | none, h =>
    have h : b ≤ a := h
    omega
  | some (d, t), ⟨h1, h2, h3, h4, h5⟩ =>
    refine ⟨h1, by omega, h3, fun u u1 u2 => ?_, h5⟩
    by_cases z : u < b
    · exact h4 u u1 z
    · have dm := Nat.div_add_mod (u - a) n
      have ml := Nat.mod_lt (u - a) (show 0 < n by omega)
      rw [Nat.mul_comm] at dm
      have q := down ((u - a) / n) (a + (u - a) % n)
      rw [show a + (u - a) % n + (u - a) / n * n = u by omega] at q
      have := h4 (a + (u - a) % n) (by omega) (by omega)
      omega
/-- rising rounds: the last round tells all -/
theorem Mx.last {F : Nat → Int} {sg R : Int} {n a b c : Nat} {r : Option (Int × Nat)} (n1 : 1 ≤ n) (st : ∀ u, F (u + n) = F u + R) (s : 0 < sg * R) (hb : b = max a (c - n)) (ac : a < c) (h : Mx F sg b c r) : Mx F sg a c r := by
  have up : ∀ k u, 1 ≤ k → sg * F u < sg * F (u + k * n) := fun k u k1 => by
    induction k with
    | zero => omega
    | succ k ih =>
      rw [Nat.succ_mul, ← Nat.add_assoc, st, Int.mul_add]
      cases k with
      | zero => rw [Nat.zero_mul, Nat.add_zero]; omega
      | succ k => have := ih (by omega); omega
  match r, h with
  | none, h =>
    have h : c ≤ b := h
    omega
  | some (d, t), ⟨h1, h2, h3, h4, h5⟩ =>
    have early : ∀ u, a ≤ u → u < b → sg * F u < sg * d := fun u u1 u2 => by
      have dm := Nat.div_add_mod (c - 1 - u) n
      have ml := Nat.mod_lt (c - 1 - u) (show 0 < n by omega)
      rw [Nat.mul_comm] at dm
      have k1 : 1 ≤ (c - 1 - u) / n := Nat.div_pos (by omega) (by omega)
      have q := up ((c - 1 - u) / n) u k1
      have := h4 (u + (c - 1 - u) / n * n) (by omega) (by omega)
      omega
    refine ⟨by omega, h2, h3, fun u u1 u2 => ?_, fun u u1 u2 => ?_⟩
    · by_cases z : b ≤ u
      · exact h4 u z u2
      · have := early u u1 (by omega); omega
    · by_cases z : b ≤ u
      · exact h5 u z u2
      · exact early u u1 (by omega)
/-- the first greatest of all ticks from a on -/
def MxA (F : Nat → Int) (sg : Int) (a : Nat) (d : Int) (t : Nat) : Prop := a ≤ t ∧ F t = d ∧ (∀ u, a ≤ u → sg * F u ≤ sg * d) ∧ ∀ u, a ≤ u → u < t → sg * F u < sg * d
/-- what extreme gives -/
def Ext (p : Par) (sg : Int) (r : Option (Int × Nat)) : Prop :=
  match r with
  | some (d, t) => MxA (deg p) sg 0 d t
  | none => ∃ b R, 0 < sg * R ∧ R = rsum p.ch (gon p.g (onn p b)) ∧ Nev p b
end Th

namespace W6
open PySem PySem.Spec PyProof.Rows L2 Ru StX
/-- a best one as a value -/
def BV (H : Hp) (v : V) (r : Option (Int × Nat)) : Prop := (r = none ∧ v = .non) ∨ ∃ (z : Addr) (d : Int) (t : Nat), r = some (d, t) ∧ v = .ref z ∧ H z = some (.tup [.int d, .int t])
theorem BV.same {H H' : Hp} {v : V} {r : Option (Int × Nat)} (h : BV H v r) (s : Same H H') : BV H' v r := by
  rcases h with h | ⟨z, d, t, h1, h2, h3⟩
  · exact .inl h
  · exact .inr ⟨z, d, t, h1, h2, s _ _ h3⟩
theorem laterF {G : Prop} (T : Nat → Nat → Prop) {S : Nat → Nat → Prop} (a : (∀ u v, S u v → T u v) → G) (b : ∀ u v, S u v → T u v) : G := a b
section
variable (a : Ad)
def spMo : Sp := fun vs H Q _ => ∃ (vb : V) (z : Addr) (r : Option (Int × Nat)) (d : Int) (t : Nat) (sg : Int), vs = [vb, .ref z, .int sg] ∧ BV H vb r ∧ H z = some (.tup [.int d, .int t]) ∧ (sg = 1 ∨ sg = -1) ∧ ∀ v, BV H v (some (Th.mox sg r (d, t))) → Q v H
/-- where a scan ends -/
def eEnd (b n : Nat) : Option Nat → Nat
  | some e => e
  | none => b + n
def spEb : Sp := fun vs H Q _ => ∃ (x : Addr) (b : Nat) (cs : List Int) (g base : Int) (on : Bool) (eo : Option Nat) (sg : Int), vs = [.ref x, optV eo, .int sg] ∧ SAt a H x cs g on b base ∧ b ≤ 1000000000000000000 ∧ (∀ e, eo = some e → b < e ∧ e ≤ 2000000000000000000) ∧ (sg = 1 ∨ sg = -1) ∧
  (eo = none → 0 < sg * Th.rsum cs (Th.gon g on) → Q .non H) ∧ ∀ v H' d t, Same H H' → (eo = none → sg * Th.rsum cs (Th.gon g on) ≤ 0) → BV H' v (some (d, t)) → Th.Mx (Th.Dg cs (Th.gon g on) base) sg b (eEnd b cs.length eo) (some (d, t)) → Q v H'
end
section
variable {P : Program} {w : World} {K : PySem.W.Frag} {mg : Str → Option Value} {base : Heap} {a : Ad}
theorem ok_more_extreme (T : Txt K mg a) : FnOk P w K mg base CX0 1 a.f_more_extreme a.d_more_extreme ["best", "found", "sign"] spMo := by
  refine T.F_more_extreme.ok sc_more_extreme (fun vs H Q E h => ?_) (fun cdv A outer s H vs Q E hr h => ?_)
  · obtain ⟨vb, z, r, d, t, sg, rfl, _⟩ := h
    rfl
  · obtain ⟨vb, z, r, d, t, sg, rfl, bv, hz, hs, k⟩ := h
    refine ⟨_, (pss_cons (ps_if (PW.pt (pw_or (pt_cmpR op_isN (pv 0) pe_non (nomark _)) (pw_or1 (pt_cmpR op_gt (pe_op op_mul (pv 2) (pe_op op_sub (pe_ix ix_tup (pv 1) pe_int (fun _ _ => rfl)) (pe_ix ix_tup (pv 0) pe_int (fun _ _ => rfl)))) pe_int (nomark _))))) (pss_one (ps_ret (pv 1))) pss_nil)
      (pss_one (ps_ret (pv 0)))), ?_⟩
    have bx : BV H (.ref z) (some (d, t)) := .inr ⟨z, d, t, rfl, rfl, hz⟩
    rcases bv with ⟨rfl, rfl⟩ | ⟨zb, db, tb, rfl, rfl, hzb⟩
    · refine ⟨_, rfl, rfl, _, rfl, ?_⟩
      refine ifT rfl ?_
      refine ifT rfl ?_
      exact ⟨_, rfl, k _ bx⟩
    · have bb : BV H (.ref zb) (some (db, tb)) := .inr ⟨zb, db, tb, rfl, rfl, hzb⟩
      have em : Th.mox sg (some (db, tb)) (d, t) = if sg * (d - db) > 0 then (d, t) else (db, tb) := rfl
      rw [em] at k
      refine ⟨_, rfl, rfl, _, rfl, ?_⟩
      refine ifF rfl ?_
      refine ⟨_, rfl, _, rfl, z, _, _, _, rfl, rfl, SqT.of hz, rfl, _, rfl, zb, _, _, _, rfl, rfl, SqT.of hzb, rfl, _, _, rfl, rfl, _, _, rfl, rfl, .inl ⟨by rcases hs with rfl | rfl <;> decide, by rcases hs with rfl | rfl <;> decide⟩, _, _, rfl, rfl, _, rfl, ?_⟩
      by_cases c : sg * (d - db) > 0
      · rw [if_pos c] at k
        refine ifT (dT c) ?_
        exact ⟨_, rfl, k _ bx⟩
      · rw [if_neg c] at k
        refine ifF (dF c) ?_
        exact ⟨_, rfl, k _ bb⟩
theorem ok_Stretch_extreme_before (T : Txt K mg a) : FnOk P w K mg base CX0 3 a.f_Stretch_extreme_before a.d_Stretch_extreme_before ["self", "end", "sign"] (spEb a) := by
  have G_Stretch_degrees_at : FnOk P w K mg base CX0 2 a.f_Stretch_degrees_at a.d_Stretch_degrees_at ["self", "tick"] (spDeg a) := ok_Stretch_degrees_at T
  have G_more_extreme : FnOk P w K mg base CX0 1 a.f_more_extreme a.d_more_extreme ["best", "found", "sign"] spMo := ok_more_extreme T
  refine T.F_Stretch_extreme_before.ok sc_Stretch_extreme_before (fun vs H Q E h => ?_) (fun cdv A outer s H vs Q E hr h => ?_)
  · obtain ⟨x, b, cs, g, base', on, eo, sg, rfl, _⟩ := h
    rfl
  · obtain ⟨x, b, cs, g, base', on, eo, sg, rfl, st, hb, he, hs, k0, k⟩ := h
    refine ⟨_, (pss_cons (ps_set (i := 3) sc_Stretch_extreme_before.nd rfl (Or.inl rfl) (pe_fld (pe_fld (pv 0) rfl) rfl))
      (pss_cons (ps_if (pt_cmpR op_le (pe_op op_mul (pv 2) (pe_fld (pe_fld (pv 0) rfl) rfl)) pe_int (nomark _)) (pss_cons (ps_par (i := 4) (j := 5) (by rfl) sc_Stretch_extreme_before.nd rfl rfl (by decide) rfl rfl (pa_cons (pe_fld (pv 0) rfl) (pa_cons (pe_op op_add (pe_fld (pv 0) rfl) (pv 3)) pa_nil)) (by rfl))
      (pss_one (ps_if (pt_cmpR op_notN (pv 1) pe_non (nomark _)) (pss_one (ps_set (i := 5) sc_Stretch_extreme_before.nd rfl (Or.inl rfl) (pe_callB (call_min2 rfl) (by rfl) T.z_min (by decide +kernel) (pa_cons (pv 5) (pa_cons (pv 1) pa_nil))))) pss_nil))) (pss_one (ps_if (pt_cmpR op_isN (pv 1) pe_non (nomark _)) (pss_one (ps_ret pe_non)) (pss_one (ps_par (i := 4) (j := 5) (by rfl) sc_Stretch_extreme_before.nd rfl rfl (by decide) rfl rfl (pa_cons (pe_callB (call_max2 rfl) (by rfl) T.z_max (by decide +kernel) (pa_cons (pe_fld (pv 0) rfl) (pa_cons (pe_op op_sub (pv 1) (pv 3)) pa_nil))) (pa_cons (pv 1) pa_nil)) (by rfl))))))
      (pss_cons (ps_set (i := 6) sc_Stretch_extreme_before.nd rfl (Or.inl rfl) pe_non)
      (pss_cons (ps_for PassesOwn.never rfl (pi_range2 (by rfl) T.z_range (pa_cons (pv 4) (pa_cons (pv 5) pa_nil))) (pg_name (i := 7) sc_Stretch_extreme_before.nd rfl (Or.inl rfl))
        (pss_one (ps_set (i := 6) sc_Stretch_extreme_before.nd rfl (Or.inl rfl) (pe_call G_more_extreme (hr.mono (by decide)) (by rfl) T.mg_more_extreme T.F_more_extreme.kp (b_more_extreme T) .nil pass0 (pa_cons (pv 6) (pa_cons (pe_tup (pa_cons (pe_meth (pv 0) T.cl_Stretch T.me_Stretch_degrees_at G_Stretch_degrees_at (hr.mono (by decide)) (b_Stretch_degrees_at T) .nil pass0 (pa_cons (pv 7) pa_nil)) (pa_cons (pv 7) pa_nil))) (pa_cons (pv 2) pa_nil)))))))
      (pss_one (ps_ret (pv 6))))))), ?_⟩
    obtain ⟨dx, td, d, hx, dd, hd⟩ := id st
    obtain ⟨⟨c, g0, g1⟩, ddx, dl, q4, _⟩ := id hd
    obtain ⟨c1, c2, c3⟩ := id c
    have rb := rsum_bd c g0 g1
    have stp : ∀ u, Th.Dg cs (Th.gon g on) base' (u + cs.length) = Th.Dg cs (Th.gon g on) base' u + Th.rsum cs (Th.gon g on) := fun u => by
      have := Th.Dg_rounds (gg := Th.gon g on) (base := base') c1 u 1
      rw [Nat.one_mul] at this
      rw [this]; simp
    generalize hgg : Th.gon g on = gg at *
    have sb : -10000 ≤ sg * Th.rsum cs gg ∧ sg * Th.rsum cs gg ≤ 10000 := by
      rcases hs with rfl | rfl <;> omega
    refine ⟨_, rfl, x, _, dx, _, _, rfl, hx, T.cl_Stretch, T.na_Stretch__drift, rfl, d, _, ddx, _, _, rfl, q4, T.cl_Drift, T.na_Drift_round_ticks, rfl, ?_⟩
    refine ⟨_, rfl, _, rfl, x, _, dx, _, _, rfl, hx, T.cl_Stretch, T.na_Stretch__drift, rfl, d, _, ddx, _, _, rfl, q4, T.cl_Drift, T.na_Drift_round_sum, rfl, _, _, rfl, rfl, .inr ⟨by omega, by omega⟩, _, _, rfl, rfl, _, rfl, ?_⟩
    cases eo with
    | none =>
      by_cases cA : sg * Th.rsum cs gg ≤ 0
      · refine ifT (dT cA) ?_
        refine ⟨_, rfl, x, _, dx, _, _, rfl, hx, T.cl_Stretch, T.na_Stretch_begin, rfl, _, rfl, x, _, dx, _, _, rfl, hx, T.cl_Stretch, T.na_Stretch_begin, rfl, _, rfl, _, _, rfl, rfl, _, _, rfl, ?_⟩
        refine ⟨_, rfl, rfl, _, rfl, ?_⟩
        refine ifF rfl ?_
        obtain ⟨fi, ef⟩ : ∃ fi : Nat, fi = b := ⟨_, rfl⟩
        obtain ⟨la, el⟩ : ∃ la : Nat, (b : Int) + (cs.length : Int) = (la : Int) := ⟨b + cs.length, by omega⟩
        dsimp only
        rw [el, ← ef]
        refine ⟨_, rfl, _, rfl, _, _, rfl, ⟨by omega, by omega, by omega, by omega⟩, ?_⟩
        have en : ((la : Int) - (fi : Int)).toNat = la - fi := by omega
        refine for_range (lo := (fi : Int)) (n := ((la : Int) - (fi : Int)).toNat) (fun i σ H' => ∃ (vb : V) (r : Option (Int × Nat)) (u : Option V), σ = [some (.ref x), some (optV none), some (.int sg), some (.int cs.length), some (.int fi), some (.int la), some vb, u] ∧ Same H H' ∧ BV H' vb r ∧ Th.Mx (Th.Dg cs gg base') sg fi (fi + i) r) ⟨.non, none, none, rfl, Same.refl _, .inl ⟨rfl, rfl⟩, Nat.le_refl _⟩ ?_ ?_
        · rintro i σ H' hi ⟨vb, r, u, rfl, sm, bv, mx⟩
          have et : (fi : Int) + (i : Int) = ((fi + i : Nat) : Int) := by omega
          refine ⟨_, rfl, _, rfl, x, dx, _, rfl, sm _ _ hx, rfl, _, rfl, x, fi + i, b, cs, g, base', on, congrArg (fun v => [V.ref x, V.int v]) et, st.same sm, fun H2 s2 => ?_⟩
          rw [hgg]
          refine ⟨_, rfl, by show 2 ≤ sizeLine; decide, fun z nz => ?_⟩
          have s3 := same_upd (o := .tup [.int (Th.Dg cs gg base' (fi + i)), .int ((fi : Int) + (i : Int))]) nz
          refine ⟨_, rfl, vb, z, r, Th.Dg cs gg base' (fi + i), fi + i, sg, rfl, (bv.same s2).same s3, by rw [upd_same]; exact congrArg (fun v => some (HO.tup [.int (Th.Dg cs gg base' (fi + i)), .int v])) et, hs, fun v bv' => ?_⟩
          exact ⟨v, _, _, rfl, (sm.trans s2).trans s3, bv', mx.join (by omega) (Th.Mx.one _ sg (fi + i))⟩
        · rintro σ H' ⟨vb, r, u, rfl, sm, bv, mx⟩
          rw [en, show fi + (la - fi) = la by omega] at mx
          cases r with
          | none =>
            have mx : la ≤ fi := mx
            omega
          | some y =>
            obtain ⟨yd, yt⟩ := y
            exact ⟨_, rfl, k vb H' yd yt sm (fun _ => cA) bv (by rw [ef] at mx; rw [show la = b + cs.length by omega] at mx; exact mx)⟩
      · refine ifF (dF cA) ?_
        refine ⟨_, rfl, rfl, _, rfl, ?_⟩
        refine ifT rfl ?_
        exact k0 rfl (by omega)
    | some e =>
      obtain ⟨be, e18⟩ := he e rfl
      -- the scan, from fi to la
      refine laterF ?T (S := fun fi la => b ≤ fi ∧ fi < la ∧ la ≤ 2000000000000000000 ∧ ∀ d t, Th.Mx (Th.Dg cs gg base') sg fi la (some (d, t)) → Th.Mx (Th.Dg cs gg base') sg b e (some (d, t))) (fun tail => ?go) ?rest
      case go =>
        by_cases cA : sg * Th.rsum cs gg ≤ 0
        · refine ifT (dT cA) ?_
          refine ⟨_, rfl, x, _, dx, _, _, rfl, hx, T.cl_Stretch, T.na_Stretch_begin, rfl, _, rfl, x, _, dx, _, _, rfl, hx, T.cl_Stretch, T.na_Stretch_begin, rfl, _, rfl, _, _, rfl, rfl, _, _, rfl, ?_⟩
          refine ⟨_, rfl, rfl, _, rfl, ?_⟩
          refine ifT rfl ?_
          refine ⟨_, rfl, _, rfl, _, _, rfl, ?_⟩
          obtain ⟨fi, ef⟩ : ∃ fi : Nat, fi = b := ⟨_, rfl⟩
          obtain ⟨la, el⟩ : ∃ la : Nat, (if (e : Int) < (b : Int) + (cs.length : Int) then (e : Int) else (b : Int) + (cs.length : Int)) = (la : Int) := ⟨min (b + cs.length) e, by split <;> omega⟩
          have el2 : la = min (b + cs.length) e := by split at el <;> omega
          dsimp only
          rw [el, ← ef]
          exact tail fi la ⟨by omega, by omega, by omega, fun d t mx => by rw [ef] at mx; exact Th.Mx.first c1 stp cA el2 be mx⟩
        · refine ifF (dF cA) ?_
          refine ⟨_, rfl, rfl, _, rfl, ?_⟩
          refine ifF rfl ?_
          refine ⟨_, rfl, x, _, dx, _, _, rfl, hx, T.cl_Stretch, T.na_Stretch_begin, rfl, _, rfl, _, rfl, _, _, rfl, rfl, _, _, rfl, _, rfl, _, _, rfl, ?_⟩
          obtain ⟨fi, el⟩ : ∃ fi : Nat, (if (e : Int) - (cs.length : Int) > (b : Int) then (e : Int) - (cs.length : Int) else (b : Int)) = (fi : Int) := ⟨max b (e - cs.length), by split <;> omega⟩
          have el2 : fi = max b (e - cs.length) := by split at el <;> omega
          dsimp only
          rw [el]
          exact tail fi e ⟨by omega, by omega, by omega, fun d t mx => Th.Mx.last c1 stp (by omega) el2 be mx⟩
      case rest =>
        rintro fi la ⟨f1, f2, f3, fm⟩
        refine ⟨_, rfl, _, rfl, _, _, rfl, ⟨by omega, by omega, by omega, by omega⟩, ?_⟩
        have en : ((la : Int) - (fi : Int)).toNat = la - fi := by omega
        refine for_range (lo := (fi : Int)) (n := ((la : Int) - (fi : Int)).toNat) (fun i σ H' => ∃ (vb : V) (r : Option (Int × Nat)) (u : Option V), σ = [some (.ref x), some (optV (some e)), some (.int sg), some (.int cs.length), some (.int fi), some (.int la), some vb, u] ∧ Same H H' ∧ BV H' vb r ∧ Th.Mx (Th.Dg cs gg base') sg fi (fi + i) r) ⟨.non, none, none, rfl, Same.refl _, .inl ⟨rfl, rfl⟩, Nat.le_refl _⟩ ?_ ?_
        · rintro i σ H' hi ⟨vb, r, u, rfl, sm, bv, mx⟩
          have et : (fi : Int) + (i : Int) = ((fi + i : Nat) : Int) := by omega
          refine ⟨_, rfl, _, rfl, x, dx, _, rfl, sm _ _ hx, rfl, _, rfl, x, fi + i, b, cs, g, base', on, congrArg (fun v => [V.ref x, V.int v]) et, st.same sm, fun H2 s2 => ?_⟩
          rw [hgg]
          refine ⟨_, rfl, by show 2 ≤ sizeLine; decide, fun z nz => ?_⟩
          have s3 := same_upd (o := .tup [.int (Th.Dg cs gg base' (fi + i)), .int ((fi : Int) + (i : Int))]) nz
          refine ⟨_, rfl, vb, z, r, Th.Dg cs gg base' (fi + i), fi + i, sg, rfl, (bv.same s2).same s3, by rw [upd_same]; exact congrArg (fun v => some (HO.tup [.int (Th.Dg cs gg base' (fi + i)), .int v])) et, hs, fun v bv' => ?_⟩
          exact ⟨v, _, _, rfl, (sm.trans s2).trans s3, bv', mx.join (by omega) (Th.Mx.one _ sg (fi + i))⟩
        · rintro σ H' ⟨vb, r, u, rfl, sm, bv, mx⟩
          rw [en, show fi + (la - fi) = la by omega] at mx
          cases r with
          | none =>
            have mx : la ≤ fi := mx
            omega
          | some y =>
            obtain ⟨yd, yt⟩ := y
            exact ⟨_, rfl, k vb H' yd yt sm (fun q => nomatch q) bv (fm yd yt mx)⟩
end
end W6

namespace W6
open PySem PySem.Spec PyProof.Rows L2 Ru StX LamX
/-- of the errors without an __init__ -/
structure ErX (K : PySem.W.Frag) (er : Er) : Prop where
  xc : ∀ j : Fin 5, j ≠ 3 → PySem.W.excIn K (er.c j) [.type "ValueError", .type "Exception", .type "BaseException", .type "object"] "ValueError.__new__" = true
  kp : ∀ j : Fin 5, PySem.W.keepIn K (.ref (er.c j)) = true
  bx : ∀ j : Fin 5, PySem.W.subIn K (.ref (er.c j)) (.type "BaseException") = some true
  ty : ∀ j : Fin 5, PySem.W.typeIn K (.ref (er.c j)) = some (.type "type")
theorem FnOk.or {P : Program} {w : World} {K : PySem.W.Frag} {mg : Str → Option Value} {base : Heap} {CX : CXT} {k : Nat} {f : Addr} {fd : FuncData} {ps : List Str} {sp sp' : Sp} (F : FnOk P w K mg base CX k f fd ps sp) (G : FnOk P w K mg base CX k f fd ps sp') :
    FnOk P w K mg base CX k f fd ps (fun vs H Q E => sp vs H Q E ∨ sp' vs H Q E) :=
  ⟨fun vs H Q E q => q.elim (F.len vs H Q E) (G.len vs H Q E), fun A outer s H args us vs Q E hr he hb hv hs => hs.elim (F.run A outer s H args us vs Q E hr he hb hv) (G.run A outer s H args us vs Q E hr he hb hv)⟩
theorem del_nil {H : Hp} : del H [] = H := by
  funext b
  unfold del
  rw [if_neg (by simp)]
section
variable (a : Ad)
/-- nothing lies before the end -/
def spEb0 : Sp := fun vs H Q _ => ∃ (x : Addr) (b : Nat) (cs : List Int) (g base sg : Int) (on : Bool), vs = [.ref x, .int b, .int sg] ∧ SAt a H x cs g on b base ∧ b ≤ 2000000000000000000 ∧ (sg = 1 ∨ sg = -1) ∧ Q .non H
def spEbA : Sp := fun vs H Q E => spEb a vs H Q E ∨ spEb0 a vs H Q E
/-- the stretch from a tick on -/
def spCont : Sp := fun vs H Q _ => ∃ (x : Addr) (e b : Nat) (cs : List Int) (g base : Int) (on : Bool), vs = [.ref x, .int e] ∧ SAt a H x cs g on b base ∧ ∀ z H', Same H H' → H z = none → SAt a H' z cs g on e base → Q (.ref z) H'
def spSw : Sp := fun vs H Q _ => ∃ (x : Addr) (e b : Nat) (cs : List Int) (g base : Int) (on : Bool), vs = [.ref x, .int e] ∧ SAt a H x cs g on b base ∧ ∀ z H', Same H H' → H z = none → SAt a H' z cs g (!on) e (Th.Dg cs (Th.gon g on) base e - Th.sumTo cs (Th.gon g (!on)) e) → Q (.ref z) H'
end
section
variable {P : Program} {w : World} {K : PySem.W.Frag} {mg : Str → Option Value} {base : Heap} {a : Ad} {er : Er}
theorem oks_Stretch_switched (T : Txt K mg a) : FnOk P w K mg base CX0 4 a.f_Stretch_switched a.d_Stretch_switched ["self", "tick"] (spSw a) := (ok_Stretch_switched T).imp fun vs H Q E ⟨x, e, b, cs, g, base', on, ev, st, k⟩ =>
  ⟨[], x, e, b, cs, g, base', on, ev, fun _ h => by simp at h, by rw [del_nil]; exact st, fun z H' sm hz st2 => k z H' sm hz (by rw [del_nil] at st2; exact st2)⟩
theorem ok_Stretch_continued (T : Txt K mg a) : FnOk P w K mg base CX0 4 a.f_Stretch_continued a.d_Stretch_continued ["self", "tick"] (spCont a) := by
  have G_Stretch_degrees_at : FnOk P w K mg base CX0 2 a.f_Stretch_degrees_at a.d_Stretch_degrees_at ["self", "tick"] (spDeg a) := ok_Stretch_degrees_at T
  have G_Stretch_init : FnOk P w K mg base CX0 2 a.f_Stretch_init a.d_Stretch_init ["self", "drifts", "on", "begin", "degrees"] (spSi a) := ok_Stretch_init T
  refine T.F_Stretch_continued.ok sc_Stretch_continued (fun vs H Q E h => ?_) (fun cdv A outer s H vs Q E hr h => ?_)
  · obtain ⟨x, e, b, cs, g, base', on, rfl, _⟩ := h
    rfl
  · obtain ⟨x, e, b, cs, g, base', on, rfl, st, k⟩ := h
    refine ⟨_, (pss_one (ps_ret (pe_make T.mk_Stretch G_Stretch_init (hr.mono (by decide)) (by rfl) T.mg_Stretch (b_Stretch_init T) .nil pass0 (pa_cons (pe_fld (pv 0) rfl) (pa_cons (pe_fld (pv 0) rfl) (pa_cons (pv 1) (pa_cons (pe_meth (pv 0) T.cl_Stretch T.me_Stretch_degrees_at G_Stretch_degrees_at (hr.mono (by decide)) (b_Stretch_degrees_at T) .nil pass0 (pa_cons (pv 1) pa_nil)) pa_nil))))))), ?_⟩
    obtain ⟨dx, td, d, hx, dd, hd⟩ := id st
    refine ⟨_, rfl, x, _, dx, _, _, rfl, hx, T.cl_Stretch, T.na_Stretch__drifts, rfl, _, rfl, x, _, dx, _, _, rfl, hx, T.cl_Stretch, T.na_Stretch_on, rfl, _, rfl, _, rfl, x, dx, _, rfl, hx, rfl, _, rfl, x, e, b, cs, g, base', on, rfl, st, fun H' sm => fun z dz nz nd ne => ?_⟩
    have s2 := same_made (x := z) (dx := dz) (C := a.c_Stretch) nz nd
    refine ⟨[], z, dz, td, cs, g, _, on, e, rfl, upd_same, by simp, by rw [del_nil]; exact (dd.same sm).same s2, fun H2 fr st2 => ⟨rfl, k z H2 (sm.trans (Fr1.made nz nd fr)) (sm.free nz) ?_⟩⟩
    rw [del_nil] at st2
    have e0 : Th.Dg cs (Th.gon g on) base' e - Th.sumTo cs (Th.gon g on) e = base' := by
      show base' + Th.sumTo cs (Th.gon g on) e - Th.sumTo cs (Th.gon g on) e = base'
      omega
    rw [e0] at st2
    exact st2
theorem okz_Stretch_extreme_before (T : Txt K mg a) : FnOk P w K mg base CX0 3 a.f_Stretch_extreme_before a.d_Stretch_extreme_before ["self", "end", "sign"] (spEb0 a) := by
  have G_Stretch_degrees_at : FnOk P w K mg base CX0 2 a.f_Stretch_degrees_at a.d_Stretch_degrees_at ["self", "tick"] (spDeg a) := ok_Stretch_degrees_at T
  have G_more_extreme : FnOk P w K mg base CX0 1 a.f_more_extreme a.d_more_extreme ["best", "found", "sign"] spMo := ok_more_extreme T
  refine T.F_Stretch_extreme_before.ok sc_Stretch_extreme_before (fun vs H Q E h => ?_) (fun cdv A outer s H vs Q E hr h => ?_)
  · obtain ⟨x, b, cs, g, base', sg, on, rfl, _⟩ := h
    rfl
  · obtain ⟨x, b, cs, g, base', sg, on, rfl, st, hb, hs, k⟩ := h
    refine ⟨_, (pss_cons (ps_set (i := 3) sc_Stretch_extreme_before.nd rfl (Or.inl rfl) (pe_fld (pe_fld (pv 0) rfl) rfl))
      (pss_cons (ps_if (pt_cmpR op_le (pe_op op_mul (pv 2) (pe_fld (pe_fld (pv 0) rfl) rfl)) pe_int (nomark _)) (pss_cons (ps_par (i := 4) (j := 5) (by rfl) sc_Stretch_extreme_before.nd rfl rfl (by decide) rfl rfl (pa_cons (pe_fld (pv 0) rfl) (pa_cons (pe_op op_add (pe_fld (pv 0) rfl) (pv 3)) pa_nil)) (by rfl))
      (pss_one (ps_if (pt_cmpR op_notN (pv 1) pe_non (nomark _)) (pss_one (ps_set (i := 5) sc_Stretch_extreme_before.nd rfl (Or.inl rfl) (pe_callB (call_min2 rfl) (by rfl) T.z_min (by decide +kernel) (pa_cons (pv 5) (pa_cons (pv 1) pa_nil))))) pss_nil))) (pss_one (ps_if (pt_cmpR op_isN (pv 1) pe_non (nomark _)) (pss_one (ps_ret pe_non)) (pss_one (ps_par (i := 4) (j := 5) (by rfl) sc_Stretch_extreme_before.nd rfl rfl (by decide) rfl rfl (pa_cons (pe_callB (call_max2 rfl) (by rfl) T.z_max (by decide +kernel) (pa_cons (pe_fld (pv 0) rfl) (pa_cons (pe_op op_sub (pv 1) (pv 3)) pa_nil))) (pa_cons (pv 1) pa_nil)) (by rfl))))))
      (pss_cons (ps_set (i := 6) sc_Stretch_extreme_before.nd rfl (Or.inl rfl) pe_non)
      (pss_cons (ps_for PassesOwn.never rfl (pi_range2 (by rfl) T.z_range (pa_cons (pv 4) (pa_cons (pv 5) pa_nil))) (pg_name (i := 7) sc_Stretch_extreme_before.nd rfl (Or.inl rfl))
        (pss_one (ps_set (i := 6) sc_Stretch_extreme_before.nd rfl (Or.inl rfl) (pe_call G_more_extreme (hr.mono (by decide)) (by rfl) T.mg_more_extreme T.F_more_extreme.kp (b_more_extreme T) .nil pass0 (pa_cons (pv 6) (pa_cons (pe_tup (pa_cons (pe_meth (pv 0) T.cl_Stretch T.me_Stretch_degrees_at G_Stretch_degrees_at (hr.mono (by decide)) (b_Stretch_degrees_at T) .nil pass0 (pa_cons (pv 7) pa_nil)) (pa_cons (pv 7) pa_nil))) (pa_cons (pv 2) pa_nil)))))))
      (pss_one (ps_ret (pv 6))))))), ?_⟩
    obtain ⟨dx, td, d, hx, dd, hd⟩ := id st
    obtain ⟨⟨c, g0, g1⟩, ddx, dl, q4, _⟩ := id hd
    obtain ⟨c1, c2, c3⟩ := id c
    have rb := rsum_bd c g0 g1
    have sb : -10000 ≤ sg * Th.rsum cs (Th.gon g on) ∧ sg * Th.rsum cs (Th.gon g on) ≤ 10000 := by
      rcases hs with rfl | rfl <;> omega
    refine ⟨_, rfl, x, _, dx, _, _, rfl, hx, T.cl_Stretch, T.na_Stretch__drift, rfl, d, _, ddx, _, _, rfl, q4, T.cl_Drift, T.na_Drift_round_ticks, rfl, ?_⟩
    refine ⟨_, rfl, _, rfl, x, _, dx, _, _, rfl, hx, T.cl_Stretch, T.na_Stretch__drift, rfl, d, _, ddx, _, _, rfl, q4, T.cl_Drift, T.na_Drift_round_sum, rfl, _, _, rfl, rfl, .inr ⟨by omega, by omega⟩, _, _, rfl, rfl, _, rfl, ?_⟩
    have scan : ∀ {Q : VK} {fi : Nat}, fi = b → Q .non H → (tSeq (tAsg (tC V.non) (gName 6))
                (tSeq
                  (tFor (iRng2 (tCons (tVar 4) (tCons (tVar 5) tNil))) (gName 7)
                    (tAsg
                      (tCall spMo [] E0
                        (tCons (tVar 6)
                          (tCons
                            (tTup
                              (tCons
                                (tMeth a.c_Stretch (Str.ofString "degrees_at") (spDeg a) [] E0 (tVar 0)
                                  (tCons (tVar 7) tNil))
                                (tCons (tVar 7) tNil)))
                            (tCons (tVar 2) tNil))))
                      (gName 6)))
                  (tRet (tVar 6)))) { nx := fun _ H' => Q .non H', rt := Q } [some (.ref x), some (.int b), some (.int sg), some (.int cs.length), some (.int b), some (.int b), none, none] H := fun {Q} {fi} _ q => by
      refine ⟨_, rfl, _, rfl, _, _, rfl, ⟨by omega, by omega, by omega, by omega⟩, ?_⟩
      have en : ((b : Int) - (b : Int)).toNat = 0 := by omega
      refine for_range (lo := (b : Int)) (n := ((b : Int) - (b : Int)).toNat) (fun i σ H' => σ = [some (.ref x), some (.int b), some (.int sg), some (.int cs.length), some (.int b), some (.int b), some .non, none] ∧ H' = H) ⟨rfl, rfl⟩ ?_ ?_
      · rintro i σ H' hi ⟨rfl, rfl⟩
        omega
      · rintro σ H' ⟨rfl, rfl⟩
        exact ⟨_, rfl, q⟩
    have lg : (1 : Int) ≤ (cs.length : Int) := by omega
    by_cases cA : sg * Th.rsum cs (Th.gon g on) ≤ 0
    · refine ifT (dT cA) ?_
      refine ⟨_, rfl, x, _, dx, _, _, rfl, hx, T.cl_Stretch, T.na_Stretch_begin, rfl, _, rfl, x, _, dx, _, _, rfl, hx, T.cl_Stretch, T.na_Stretch_begin, rfl, _, rfl, _, _, rfl, rfl, _, _, rfl, ?_⟩
      refine ⟨_, rfl, rfl, _, rfl, ?_⟩
      refine ifT rfl ?_
      refine ⟨_, rfl, _, rfl, _, _, rfl, ?_⟩
      dsimp only
      rw [if_pos (show (b : Int) < (b : Int) + (cs.length : Int) by omega)]
      exact scan rfl k
    · refine ifF (dF cA) ?_
      refine ⟨_, rfl, rfl, _, rfl, ?_⟩
      refine ifF rfl ?_
      refine ⟨_, rfl, x, _, dx, _, _, rfl, hx, T.cl_Stretch, T.na_Stretch_begin, rfl, _, rfl, _, rfl, _, _, rfl, rfl, _, _, rfl, _, rfl, _, _, rfl, ?_⟩
      dsimp only
      rw [if_neg (show ¬ (b : Int) - (cs.length : Int) > (b : Int) by omega)]
      exact scan rfl k
theorem oka_Stretch_extreme_before (T : Txt K mg a) : FnOk P w K mg base CX0 3 a.f_Stretch_extreme_before a.d_Stretch_extreme_before ["self", "end", "sign"] (spEbA a) := W6.FnOk.or (ok_Stretch_extreme_before T) (okz_Stretch_extreme_before T)
end
end W6

/-! the frame rule: a def leaves alone the lists that its promise does not see -/
namespace Ru
open PySem PySem.Spec PyProof.Rows L2
/-- without some objects -/
def cut (H : Hp) (S : List Addr) : Hp := fun b => if b ∈ S then none else H b
/-- the objects of S from H, the others from H' -/
def mix (S : List Addr) (H H' : Hp) : Hp := fun b => if b ∈ S then H b else H' b
theorem cut_in {H : Hp} {S : List Addr} {b : Addr} (h : b ∉ S) : cut H S b = H b := if_neg h
theorem cut_at {H : Hp} {S : List Addr} {b : Addr} (h : b ∈ S) : cut H S b = none := if_pos h
theorem mix_in {H H' : Hp} {S : List Addr} {b : Addr} (h : b ∈ S) : mix S H H' b = H b := if_pos h
theorem mix_out {H H' : Hp} {S : List Addr} {b : Addr} (h : b ∉ S) : mix S H H' b = H' b := if_neg h
/-- the promise, framed: S are lists -/
def spFrame (sp : Sp) : Sp := fun vs H Q E => ∃ S : List Addr, (∀ y ∈ S, ∃ xs, H y = some (.lst xs)) ∧ sp vs (cut H S) (fun v H0 => (∀ y ∈ S, H0 y = none) → Q v (mix S H H0)) E
section
variable {P : Program} {w : World} {K : PySem.W.Frag} {mg : Str → Option Value} {base : Heap} {k : Nat} {f : Addr} {fd : FuncData} {ps : List Str} {sp : Sp}
theorem hok_cut {H : Hp} {h : Heap} {S : List Addr} (ok : HOk P w H h) (l : ∀ y ∈ S, ∃ xs, H y = some (.lst xs)) : HOk P w (cut H S) h := fun b o e => by
  by_cases hb : b ∈ S
  · rw [cut_at hb] at e; cases e
  · rw [cut_in hb] at e
    refine (ok b o e).stay (fun _ _ _ q => q) (fun c q => ?_) (fun c xs q => ?_)
    · rw [cut_in fun m => ?_]
      · exact q
      · obtain ⟨xs, z⟩ := l c m
        rw [q] at z; cases z
    · rw [cut_in fun m => ?_]
      · exact q
      · obtain ⟨ys, z⟩ := l c m
        rw [q] at z; cases z
theorem _root_.L2.FnOk.frame (F : FnOk P w K mg base CX0 k f fd ps sp) : FnOk P w K mg base CX0 k f fd ps (spFrame sp) := by
  refine ⟨fun vs H Q E h => ?_, fun A outer s H args us vs Q E hr he hb hv h => ?_⟩
  · obtain ⟨S, _, h⟩ := h
    exact F.len _ _ _ _ h
  · obtain ⟨S, l, h⟩ := h
    have he' : Env0 P w K mg base A outer s (cut H S) := by
      refine ⟨he.frames, he.mod, fun b o q => ⟨(he.bs b o q).1, ?_⟩, he.bsz, he.funs, fun b q => ?_, hok_cut he.hok l, he.bare⟩
      · by_cases m : b ∈ S
        · exact cut_at m
        · rw [cut_in m]; exact (he.bs b o q).2
      · by_cases m : b ∈ S
        · exact cut_at m
        · rw [cut_in m]; exact he.frf b q
    refine codeAny_mono (F.run A outer s (cut H S) args us vs _ E hr he' hb hv h) fun r s' hq => ?_
    cases r with
    | error e => exact hq
    | ok fl =>
      cases fl with
      | next => exact hq
      | brk => exact hq
      | cont => exact hq
      | ret u =>
        obtain ⟨v, H0, os, bare, un, hok, rv, q⟩ := hq
        have n0 : ∀ y ∈ S, H0 y = none := fun y hy => by
          obtain ⟨xs, z⟩ := l y hy
          obtain ⟨_, its, n, _, e⟩ := he.hok y _ z
          exact un.free y _ e (cut_at hy) (by simp)
        refine ⟨v, mix S H H0, os, bare, ?_, ?_, rv, q n0⟩
        · refine ⟨fun b o e hn => ?_, fun b o e hn => ?_, fun b o e hn hx => ?_, un.there, fun b xs e => ?_, fun b o u e => ?_, fun b ps e => ?_⟩
          · have m : b ∉ S := fun m => by obtain ⟨xs, z⟩ := l b m; rw [hn] at z; cases z
            exact un.keep b o e (by rw [cut_in m]; exact hn)
          · have m : b ∉ S := fun m => by obtain ⟨xs, z⟩ := l b m; rw [hn] at z; cases z
            exact un.slot b o e (by rw [cut_in m]; exact hn)
          · have m : b ∉ S := fun m => by obtain ⟨xs, z⟩ := l b m; rw [hn] at z; cases z
            rw [mix_out m]
            exact un.free b o e (by rw [cut_in m]; exact hn) hx
          · have m : b ∉ S := fun m => by obtain ⟨xs, z⟩ := l b m; rw [e] at z; cases z
            rw [mix_out m]
            exact un.tups b xs (by rw [cut_in m]; exact e)
          · have m : b ∉ S := fun m => by obtain ⟨xs, z⟩ := l b m; rw [e] at z; cases z
            rw [mix_out m]
            exact un.frzs b o u (by rw [cut_in m]; exact e)
          · have m : b ∉ S := fun m => by obtain ⟨xs, z⟩ := l b m; rw [e] at z; cases z
            rw [mix_out m]
            exact un.tbls b ps (by rw [cut_in m]; exact e)
        · intro b o e
          by_cases m : b ∈ S
          · rw [mix_in m] at e
            obtain ⟨xs, z⟩ := l b m
            rw [e] at z
            cases z
            obtain ⟨sz, its, n, rs, e2⟩ := he.hok b _ e
            refine ⟨sz, its, n, rs, un.keep b _ e2 (cut_at m) (fun hf => ?_) (by simp)⟩
            have := he.frf b hf
            rw [e] at this; cases this
          · rw [mix_out m] at e
            refine (hok b o e).stay (fun _ _ _ q => q) (fun c q => ?_) (fun c xs q => ?_)
            · rw [mix_out fun mc => ?_]
              · exact q
              · rw [n0 c mc] at q; cases q
            · rw [mix_out fun mc => ?_]
              · exact q
              · rw [n0 c mc] at q; cases q
end
end Ru

namespace W6
open PySem PySem.Spec PyProof.Rows L2 Ru StX LamX
/-- an observer's state -/
structure Ob where
  cs : List Int
  g : Int
  on : Bool
  b : Nat
  base : Int
  l0 : Int
  l1 : Int
  h0 : Int
  h1 : Int
def mxv (i j : Int) : Int := if j > i then j else i
def mnv (i j : Int) : Int := if j < i then j else i
def sgOf (on : Bool) : Int := if on = true then 1 else -1
def rL (on : Bool) (oe : Option Int) (l1 : Int) : Int := match oe with
  | none => l1
  | some d => if on = true then l1 else mnv l1 d
def rH (on : Bool) (oe : Option Int) (h0 : Int) : Int := match oe with
  | none => h0
  | some d => if on = true then mxv h0 d else h0
def Ob.deg (o : Ob) (t : Nat) : Int := Th.Dg o.cs (Th.gon o.g o.on) o.base t
def Ob.rest (o : Ob) (t : Nat) (oe : Option Int) : Ob := { o with b := t + 1, l1 := rL o.on oe o.l1, h0 := rH o.on oe o.h0 }
def Ob.sw (o : Ob) (t : Nat) (oe : Option Int) : Ob :=
  { o with on := !o.on, b := t + 1, base := o.deg t - Th.sumTo o.cs (Th.gon o.g (!o.on)) t, l0 := if o.on = true then o.l0 else mxv o.l0 (o.deg t + 1), l1 := rL o.on oe o.l1, h0 := rH o.on oe o.h0, h1 := if o.on = true then mnv o.h1 (o.deg t - 1) else o.h1 }
def BadR (l0 l1 h0 h1 : Int) : Prop := l0 > l1 ∨ h0 > h1 ∨ l0 > h1
def Ob.bad (o : Ob) : Prop := BadR o.l0 o.l1 o.h0 o.h1
/-- the extreme of the ticks from b to before e -/
def ExO (o : Ob) (e : Nat) (oe : Option Int) : Prop := (e = o.b ∧ oe = none) ∨ (o.b < e ∧ ∃ d t, oe = some d ∧ Th.Mx (Th.Dg o.cs (Th.gon o.g o.on) o.base) (sgOf o.on) o.b e (some (d, t)))
def Fr2 (x ac : Addr) (H H' : Hp) : Prop := ∀ b u, b ≠ x → b ≠ ac → H b = some u → H' b = some u
def RngAt (H : Hp) (z : Addr) (l0 l1 h0 h1 : Int) : Prop := ∃ p q, H z = some (.tup [.ref p, .ref q]) ∧ H p = some (.tup [.int l0, .int l1]) ∧ H q = some (.tup [.int h0, .int h1])
section
variable (a : Ad) (er : Er)
def ObAt (H : Hp) (x ac : Addr) (o : Ob) (rs : List Addr) : Prop := ∃ dx u lo hi, H x = some (.ins a.c_ThresholdObserver dx [("_unseen", .ref u), ("_lows", .ref lo), ("_highs", .ref hi), ("_accepted", .ref ac)]) ∧ SAt a H u o.cs o.g o.on o.b o.base ∧ H lo = some (.tup [.int o.l0, .int o.l1]) ∧ H hi = some (.tup [.int o.h0, .int o.h1]) ∧ H ac = some (.lst (rs.map V.ref))
def spCr : Sp := fun vs H Q E => ∃ (p q : Addr) (l0 l1 h0 h1 : Int), vs = [.ref p, .ref q] ∧ H p = some (.tup [.int l0, .int l1]) ∧ H q = some (.tup [.int h0, .int h1]) ∧ (BadR l0 l1 h0 h1 → E (.ref (er.c 0)) none H) ∧ (¬ BadR l0 l1 h0 h1 → Q .non H)
def spRar : Sp := fun vs H Q _ => ∃ (x ac : Addr) (e : Nat) (o : Ob) (rs : List Addr), vs = [.ref x, .int e] ∧ ObAt a H x ac o rs ∧ o.b ≤ e ∧ o.b ≤ 1000000000000000000 ∧ e ≤ 2000000000000000000 ∧ ∀ z H' oe, Same H H' → ExO o e oe → RngAt H' z o.l0 (rL o.on oe o.l1) (rH o.on oe o.h0) o.h1 → Q (.ref z) H'
def spAcc : Sp := fun vs H Q _ => ∃ (x ac dx u0 l0' h0' p q s ob : Addr) (w : V) (l0 l1 h0 h1 : Int) (rs : List Addr) (cs : List Int) (g base : Int) (on : Bool) (b t : Nat), vs = [.ref x, .ref p, .ref q, .ref s, .ref ob] ∧
  H x = some (.ins a.c_ThresholdObserver dx [("_unseen", .ref u0), ("_lows", .ref l0'), ("_highs", .ref h0'), ("_accepted", .ref ac)]) ∧ H ac = some (.lst (rs.map V.ref)) ∧ rs.length ≤ 1000 ∧ H p = some (.tup [.int l0, .int l1]) ∧ H q = some (.tup [.int h0, .int h1]) ∧ SAt a H s cs g on b base ∧ H ob = some (.tup [w, .int t]) ∧
  ∀ z H', Fr2 x ac H H' → H' z = some (.tup [.int (l1 - l0 + 1), .int (h1 - h0 + 1)]) → ObAt a H' x ac ⟨cs, g, on, t + 1, base, l0, l1, h0, h1⟩ (rs ++ [ob]) → Q (.ref z) H'
/-- what a report of an observer is answered with -/
def Told (S : List Addr) (x ac : Addr) (rec : List V) (o' : Ob) (rs : List Addr) (H : Hp) (Q : VK) (E : XK) : Prop := (o'.bad → ∀ H', Same H H' → E (.ref (er.c 0)) none H') ∧ (¬ o'.bad → ∀ z r H', Fr2 x ac H H' → H' z = some (.tup [.int (o'.l1 - o'.l0 + 1), .int (o'.h1 - o'.h0 + 1)]) → H' r = some (.tup rec) → ObAt a (cut H' S) x ac o' (rs ++ [r]) → Q (.ref z) H')
def spSee (nm : Str) (f : Ob → Nat → Option Int → Ob) (k : Nat) : Sp := fun vs H Q E => ∃ (S : List Addr) (x ac : Addr) (t : Nat) (o : Ob) (rs : List Addr), vs = [.ref x, .int t] ∧ (∀ y ∈ S, ∃ xs, H y = some (.lst xs)) ∧ ObAt a (cut H S) x ac o rs ∧ rs.length ≤ 1000 ∧ o.b ≤ t ∧ t ≤ 1000000000000000000 ∧ ∀ oe, ExO o (t + k) oe → Told a er S x ac [.str nm, .int t] (f o t oe) rs H Q E
def spTi : Sp := fun vs H Q _ => ∃ (x dx ww : Addr) (cs : List Int) (g st : Int) (on : Bool), vs = [.ref x, .ref ww, .int g, .int st, .bl on] ∧ H x = some (.ins a.c_ThresholdObserver dx []) ∧ WAt a H ww cs ∧ CH cs ∧ 1 ≤ g ∧ g ≤ 200 ∧ -1000000000000 ≤ st ∧ st ≤ 1000000000000 ∧
  ∀ ac H', Fr1 x H H' → H ac = none → ObAt a H' x ac ⟨cs, g, on, 0, st, -1000000000000, 1000000000000, -1000000000000, 1000000000000⟩ [] → Q .non H'
end
theorem Fr2.trans {x y : Addr} {H H1 H2 : Hp} (a : Fr2 x y H H1) (b : Fr2 x y H1 H2) : Fr2 x y H H2 := fun c o h h' e => b c o h h' (a c o h h' e)
theorem Fr2.of {x y : Addr} {H H' : Hp} (h : Same H H') : Fr2 x y H H' := fun b o _ _ e => h b o e
theorem Fr2.of1 {x y : Addr} {H H' : Hp} (h : Fr1 x H H') : Fr2 x y H H' := fun b o hb _ e => h b o hb e
theorem Fr2.of1' {x y : Addr} {H H' : Hp} (h : Fr1 y H H') : Fr2 x y H H' := fun b o _ hb e => h b o hb e
section
variable {P : Program} {w : World} {K : PySem.W.Frag} {mg : Str → Option Value} {base : Heap} {a : Ad} {er : Er}
theorem ObAt.same {H H' : Hp} {x ac : Addr} {o : Ob} {rs : List Addr} (h : ObAt a H x ac o rs) (s : Same H H') : ObAt a H' x ac o rs := by
  obtain ⟨dx, u, lo, hi, hx, st, hl, hh, ha⟩ := h
  exact ⟨dx, u, lo, hi, s _ _ hx, st.same s, s _ _ hl, s _ _ hh, s _ _ ha⟩
theorem ne_of_none' {H : Hp} {x y : Addr} {o : HO} (hx : H x = some o) (hy : H y = none) : y ≠ x := fun e => by
  rw [e, hx] at hy
  cases hy
theorem DAt.fr1 {H H' : Hp} {x dx C z : Addr} {cs : List Int} {g : Int} (h : DAt a H z cs g) (f : Fr1 x H H') (hx : H x = some (.ins C dx [])) : DAt a H' z cs g := by
  obtain ⟨⟨c, g0, g1⟩, dd, l, hz, hl⟩ := h
  exact ⟨⟨c, g0, g1⟩, dd, l, f _ _ (ne_of hz hx (fun q => by injection q with q1 q2 q3; cases q3)) hz, f _ _ (ne_of hl hx (fun q => nomatch q)) hl⟩
theorem SAt.fr1 {H H' : Hp} {x dx C z : Addr} {cs : List Int} {g base : Int} {on : Bool} {b : Nat} (h : SAt a H z cs g on b base) (f : Fr1 x H H') (hx : H x = some (.ins C dx [])) : SAt a H' z cs g on b base := by
  obtain ⟨dd, td, d, hz, ⟨d0, d1, ht, D0, D1⟩, D⟩ := h
  exact ⟨dd, td, d, f _ _ (ne_of hz hx (fun q => by injection q with q1 q2 q3; cases q3)) hz, ⟨d0, d1, f _ _ (ne_of ht hx (fun q => nomatch q)) ht, D0.fr1 f hx, D1.fr1 f hx⟩, D.fr1 f hx⟩
theorem DAt.fr2 {H H' : Hp} {x ac dx C z : Addr} {f1 f2 f3 f4 : Str × V} {rs : List Addr} {cs : List Int} {g : Int} (h : DAt a H z cs g) (hx : H x = some (.ins C dx [f1, f2, f3, f4])) (ha : H ac = some (.lst (rs.map V.ref))) (f : Fr2 x ac H H') : DAt a H' z cs g := by
  obtain ⟨⟨c, g0, g1⟩, dd, l, hz, hl⟩ := h
  refine ⟨⟨c, g0, g1⟩, dd, l, f _ _ (ne_of hz hx (fun q => by injection q with q1 q2 q3; exact nomatch q3)) (ne_of hz ha (fun q => nomatch q)) hz, f _ _ (ne_of hl hx (fun q => nomatch q)) (ne_of hl ha (fun q => ?_)) hl⟩
  injection q with q
  obtain ⟨n, hn⟩ : ∃ n, cs.length = n + 1 := ⟨cs.length - 1, by have := c.1; omega⟩
  rw [sumsV, hn, List.range_succ_eq_map] at q
  cases rs with
  | nil => simp at q
  | cons r rs => simp at q
theorem SAt.fr2 {H H' : Hp} {x ac dx C z : Addr} {f1 f2 f3 f4 : Str × V} {rs : List Addr} {cs : List Int} {g base : Int} {on : Bool} {b : Nat} (h : SAt a H z cs g on b base) (hx : H x = some (.ins C dx [f1, f2, f3, f4])) (ha : H ac = some (.lst (rs.map V.ref))) (f : Fr2 x ac H H') : SAt a H' z cs g on b base := by
  obtain ⟨dd, td, d, hz, ⟨d0, d1, ht, D0, D1⟩, D⟩ := h
  exact ⟨dd, td, d, f _ _ (ne_of hz hx (fun q => by injection q with q1 q2 q3; exact nomatch q3)) (ne_of hz ha (fun q => nomatch q)) hz, ⟨d0, d1, f _ _ (ne_of ht hx (fun q => nomatch q)) (ne_of ht ha (fun q => nomatch q)) ht, D0.fr2 hx ha f, D1.fr2 hx ha f⟩, D.fr2 hx ha f⟩
theorem cut_some {H : Hp} {S : List Addr} {b : Addr} {o : HO} (e : cut H S b = some o) : H b = some o := by
  by_cases m : b ∈ S
  · rw [cut_at m] at e; cases e
  · rw [cut_in m] at e; exact e
theorem cut_same {H : Hp} {S : List Addr} : Same (cut H S) H := fun _ _ e => cut_some e
theorem sameCut {H H' : Hp} {S : List Addr} (s : Same H H') : Same (cut H S) (cut H' S) := fun b o e => by
  by_cases m : b ∈ S
  · rw [cut_at m] at e; cases e
  · rw [cut_in m] at e ⊢
    exact s b o e
theorem cut_tup {H : Hp} {S : List Addr} (l : ∀ y ∈ S, ∃ xs, H y = some (.lst xs)) {b : Addr} {xs : List V} (h : H b = some (.tup xs)) : cut H S b = some (.tup xs) := by
  rw [cut_in fun m => ?_]
  · exact h
  · obtain ⟨ys, e⟩ := l b m
    rw [h] at e; cases e
theorem frm {S : List Addr} {H H0 : Hp} (n0 : ∀ y ∈ S, H0 y = none) : cut (mix S H H0) S = H0 := by
  funext b
  by_cases m : b ∈ S
  · rw [cut_at m, n0 b m]
  · rw [cut_in m, mix_out m]
theorem frmF {S : List Addr} {x ac : Addr} {H H0 : Hp} (f : Fr2 x ac (cut H S) H0) : Fr2 x ac H (mix S H H0) := fun b u n1 n2 e => by
  by_cases m : b ∈ S
  · rw [mix_in m]; exact e
  · rw [mix_out m]; exact f b u n1 n2 (by rw [cut_in m]; exact e)
theorem frmS {S : List Addr} {H H0 : Hp} (f : Same (cut H S) H0) : Same H (mix S H H0) := fun b u e => by
  by_cases m : b ∈ S
  · rw [mix_in m]; exact e
  · rw [mix_out m]; exact f b u (by rw [cut_in m]; exact e)
theorem frmA {S : List Addr} {H H0 : Hp} (n0 : ∀ y ∈ S, H0 y = none) {b : Addr} {o : HO} (e : H0 b = some o) : mix S H H0 b = some o := by
  rw [mix_out fun m => ?_]
  · exact e
  · rw [n0 b m] at e; cases e
theorem ls_same {S : List Addr} {H H' : Hp} (l : ∀ y ∈ S, ∃ xs, H y = some (.lst xs)) (s : Same H H') : ∀ y ∈ S, ∃ xs, H' y = some (.lst xs) := fun y hy => by
  obtain ⟨xs, e⟩ := l y hy
  exact ⟨xs, s _ _ e⟩
theorem ok_check_ranges (T : Txt K mg a) (ER : ErT P K mg er) (EX : ErX K er) : FnOk P w K mg base (L2.CX P w) 1 a.f_check_ranges a.d_check_ranges ["lows", "highs"] (spCr er) := by
  refine T.F_check_ranges.okX sc_check_ranges (fun vs H Q E h => ?_) (fun cdv A outer s H vs Q E hr h => ?_)
  · obtain ⟨p, q, l0, l1, h0, h1, rfl, _⟩ := h
    rfl
  · obtain ⟨p, q, l0, l1, h0, h1, rfl, hp, hq, kb, k⟩ := h
    refine ⟨_, (pss_one (ps_if (PW.pt (pw_or (pt_cmpR op_gt (pe_ix (show IxR _ (rIxT K) from ix_tup) (pv 0) pe_int (fun _ _ => rfl)) (pe_ix (show IxR _ (rIxT K) from ix_tup) (pv 0) pe_int (fun _ _ => rfl)) (nomark _)) (pw_or (pt_cmpR op_gt (pe_ix (show IxR _ (rIxT K) from ix_tup) (pv 1) pe_int (fun _ _ => rfl)) (pe_ix (show IxR _ (rIxT K) from ix_tup) (pv 1) pe_int (fun _ _ => rfl)) (nomark _)) (pw_or1 (pt_cmpR op_gt (pe_ix (show IxR _ (rIxT K) from ix_tup) (pv 0) pe_int (fun _ _ => rfl)) (pe_ix (show IxR _ (rIxT K) from ix_tup) (pv 1) pe_int (fun _ _ => rfl)) (nomark _)))))) (pss_one (ps_raise rfl (takes_of rfl rfl rfl rfl) (pmk_own PySem.F.excBase_ValueError (EX.xc 0 (by decide)) ER.g_Contradiction (EX.kp 0) (raises_own (EX.bx 0) (EX.ty 0)) rfl))) pss_nil)), ?_⟩
    refine ⟨_, rfl, p, _, _, _, rfl, rfl, SqT.of hp, rfl, _, rfl, p, _, _, _, rfl, rfl, SqT.of hp, rfl, _, _, rfl, rfl, _, rfl, ?_⟩
    by_cases c1 : l0 > l1
    · refine ifT (dT c1) ?_
      refine ifT rfl ?_
      exact kb (.inl c1)
    · refine ifF (dF c1) ?_
      refine ⟨_, rfl, q, _, _, _, rfl, rfl, SqT.of hq, rfl, _, rfl, q, _, _, _, rfl, rfl, SqT.of hq, rfl, _, _, rfl, rfl, _, rfl, ?_⟩
      by_cases c2 : h0 > h1
      · refine ifT (dT c2) ?_
        refine ifT rfl ?_
        exact kb (.inr (.inl c2))
      · refine ifF (dF c2) ?_
        refine ⟨_, rfl, p, _, _, _, rfl, rfl, SqT.of hp, rfl, _, rfl, q, _, _, _, rfl, rfl, SqT.of hq, rfl, _, _, rfl, rfl, _, rfl, ?_⟩
        by_cases c3 : l0 > h1
        · refine ifT (dT c3) ?_
          exact kb (.inr (.inr c3))
        · refine ifF (dF c3) ?_
          exact k (fun z => z.elim c1 fun z => z.elim c2 c3)
theorem ok_ThresholdObserver_ranges_after_rest (T : Txt K mg a) : FnOk P w K mg base CX0 4 a.f_ThresholdObserver_ranges_after_rest a.d_ThresholdObserver_ranges_after_rest ["self", "end"] (spRar a) := by
  have G_Stretch_extreme_before : FnOk P w K mg base CX0 3 a.f_Stretch_extreme_before a.d_Stretch_extreme_before ["self", "end", "sign"] (spEbA a) := oka_Stretch_extreme_before T
  refine T.F_ThresholdObserver_ranges_after_rest.ok sc_ThresholdObserver_ranges_after_rest (fun vs H Q E h => ?_) (fun cdv A outer s H vs Q E hr h => ?_)
  · obtain ⟨x, ac, e, o, rs, rfl, _⟩ := h
    rfl
  · obtain ⟨x, ac, e, o, rs, rfl, ⟨dx, u, lo, hi, hx, st, hl, hh, ha⟩, be, b18, e18, k⟩ := h
    refine ⟨_, (pss_cons (ps_par (i := 2) (j := 3) (by rfl) sc_ThresholdObserver_ranges_after_rest.nd rfl rfl (by decide) rfl rfl (pa_cons (pe_fld (pv 0) rfl) (pa_cons (pe_fld (pv 0) rfl) pa_nil)) (by rfl))
      (pss_cons (ps_set (i := 4) sc_ThresholdObserver_ranges_after_rest.nd rfl (Or.inl rfl) (pe_meth (pe_fld (pv 0) rfl) T.cl_Stretch T.me_Stretch_extreme_before G_Stretch_extreme_before (hr.mono (by decide)) (b_Stretch_extreme_before T) .nil pass0 (pa_cons (pv 1) (pa_cons (pe_ifExp (pt_val (pe_fld (pe_fld (pv 0) rfl) rfl)) pe_int (pe_un un_neg pe_int)) pa_nil))))
      (pss_cons (ps_if (pt_cmpR op_isN (pv 4) pe_non (nomark _)) (pss_one (ps_ret (pe_tup (pa_cons (pv 2) (pa_cons (pv 3) pa_nil))))) pss_nil)
      (pss_cons (ps_if (pt_val (pe_fld (pe_fld (pv 0) rfl) rfl)) (pss_one (ps_ret (pe_tup (pa_cons (pv 2) (pa_cons (pe_tup (pa_cons (pe_callB (call_max2 rfl) (by rfl) T.z_max (by decide +kernel) (pa_cons (pe_ix (show IxR _ (rIxT K) from ix_tup) (pv 3) pe_int (fun _ _ => rfl)) (pa_cons (pe_ix (show IxR _ (rIxT K) from ix_tup) (pv 4) pe_int (fun _ _ => rfl)) pa_nil))) (pa_cons (pe_ix (show IxR _ (rIxT K) from ix_tup) (pv 3) pe_int (fun _ _ => rfl)) pa_nil))) pa_nil))))) pss_nil)
      (pss_one (ps_ret (pe_tup (pa_cons (pe_tup (pa_cons (pe_ix (show IxR _ (rIxT K) from ix_tup) (pv 2) pe_int (fun _ _ => rfl)) (pa_cons (pe_callB (call_min2 rfl) (by rfl) T.z_min (by decide +kernel) (pa_cons (pe_ix (show IxR _ (rIxT K) from ix_tup) (pv 2) pe_int (fun _ _ => rfl)) (pa_cons (pe_ix (show IxR _ (rIxT K) from ix_tup) (pv 4) pe_int (fun _ _ => rfl)) pa_nil))) pa_nil))) (pa_cons (pv 3) pa_nil))))))))), ?_⟩
    obtain ⟨cs, g, on, b, base', l0, l1, h0, h1⟩ := o
    obtain ⟨du, td, d, hu, dd, hd⟩ := id st
    dsimp only at be b18 hl hh hu st k
    refine ⟨_, rfl, x, _, dx, _, _, rfl, hx, T.cl_ThresholdObserver, T.na_ThresholdObserver__lows, rfl, _, rfl, x, _, dx, _, _, rfl, hx, T.cl_ThresholdObserver, T.na_ThresholdObserver__highs, rfl, _, _, rfl, ?_⟩
    refine ⟨_, rfl, x, _, dx, _, _, rfl, hx, T.cl_ThresholdObserver, T.na_ThresholdObserver__unseen, rfl, u, du, _, rfl, hu, rfl, _, rfl, _, rfl, x, _, dx, _, _, rfl, hx, T.cl_ThresholdObserver, T.na_ThresholdObserver__unseen, rfl, u, _, du, _, _, rfl, hu, T.cl_Stretch, T.na_Stretch_on, rfl, _, rfl, ?_⟩
    have bad : ∀ {v : V} {oe : Option Int}, (v = .non ∧ oe = none) ∨ (∃ y, v = .ref y) → (decide (v = .non) = true ∧ oe = none) ∨ (decide (v = .non) = false) := fun h => by
      rcases h with ⟨rfl, e⟩ | ⟨y, rfl⟩
      · exact .inl ⟨rfl, e⟩
      · exact .inr rfl
    cases on with
    | true =>
      refine ifT rfl ?_
      rcases Nat.lt_or_ge b e with lt | ge
      · refine .inl ⟨u, b, cs, g, base', true, some e, 1, rfl, st, b18, fun e' q => by cases q; exact ⟨lt, e18⟩, .inl rfl, (fun q => nomatch q), fun v H' dg t sm _ bv mx => ?_⟩
        rcases bv with ⟨q, _⟩ | ⟨y, dg', t', q, rfl, hy⟩
        · exact nomatch q
        cases q
        refine ⟨_, rfl, rfl, _, rfl, ifF rfl ?_⟩
        refine ⟨_, rfl, x, _, dx, _, _, rfl, sm _ _ hx, T.cl_ThresholdObserver, T.na_ThresholdObserver__unseen, rfl, u, _, du, _, _, rfl, sm _ _ hu, T.cl_Stretch, T.na_Stretch_on, rfl, _, rfl, ifT rfl ?_⟩
        refine ⟨_, rfl, _, rfl, hi, _, _, _, rfl, rfl, SqT.of (sm _ _ hh), rfl, _, rfl, y, _, _, _, rfl, rfl, SqT.of hy, rfl, _, _, rfl, _, rfl, hi, _, _, _, rfl, rfl, SqT.of (sm _ _ hh), rfl, by show 2 ≤ sizeLine; decide, fun p hp => ⟨by show 2 ≤ sizeLine; decide, fun z hz => ?_⟩⟩
        have s2 := sm.trans (same_upd (o := .tup [.int (mxv h0 dg), .int h1]) hp)
        have s3 := s2.trans (same_upd (o := .tup [.ref lo, .ref p]) hz)
        exact k z _ (some dg) s3 (.inr ⟨lt, dg, t, rfl, mx⟩) ⟨lo, p, upd_same, s3 _ _ hl, same_upd hz _ _ upd_same⟩
      · obtain rfl : e = b := by omega
        refine .inr ⟨u, e, cs, g, base', 1, true, rfl, st, e18, .inl rfl, ?_⟩
        refine ⟨_, rfl, rfl, _, rfl, ifT rfl ?_⟩
        refine ⟨_, rfl, _, rfl, by show 2 ≤ sizeLine; decide, fun z hz => ?_⟩
        have s3 := same_upd (o := .tup [.ref lo, .ref hi]) hz
        exact k z _ none s3 (.inl ⟨rfl, rfl⟩) ⟨lo, hi, upd_same, s3 _ _ hl, s3 _ _ hh⟩
    | false =>
      refine ifF rfl ?_
      refine ⟨_, rfl, ?_⟩
      rcases Nat.lt_or_ge b e with lt | ge
      · refine .inl ⟨u, b, cs, g, base', false, some e, -1, rfl, st, b18, fun e' q => by cases q; exact ⟨lt, e18⟩, .inr rfl, (fun q => nomatch q), fun v H' dg t sm _ bv mx => ?_⟩
        rcases bv with ⟨q, _⟩ | ⟨y, dg', t', q, rfl, hy⟩
        · exact nomatch q
        cases q
        refine ⟨_, rfl, rfl, _, rfl, ifF rfl ?_⟩
        refine ⟨_, rfl, x, _, dx, _, _, rfl, sm _ _ hx, T.cl_ThresholdObserver, T.na_ThresholdObserver__unseen, rfl, u, _, du, _, _, rfl, sm _ _ hu, T.cl_Stretch, T.na_Stretch_on, rfl, _, rfl, ifF rfl ?_⟩
        refine ⟨_, rfl, lo, _, _, _, rfl, rfl, SqT.of (sm _ _ hl), rfl, _, rfl, lo, _, _, _, rfl, rfl, SqT.of (sm _ _ hl), rfl, _, rfl, y, _, _, _, rfl, rfl, SqT.of hy, rfl, _, _, rfl, by show 2 ≤ sizeLine; decide, fun p hp => ⟨_, rfl, by show 2 ≤ sizeLine; decide, fun z hz => ?_⟩⟩
        have s2 := sm.trans (same_upd (o := .tup [.int l0, .int (mnv l1 dg)]) hp)
        have s3 := s2.trans (same_upd (o := .tup [.ref p, .ref hi]) hz)
        exact k z _ (some dg) s3 (.inr ⟨lt, dg, t, rfl, mx⟩) ⟨p, hi, upd_same, same_upd hz _ _ upd_same, s3 _ _ hh⟩
      · obtain rfl : e = b := by omega
        refine .inr ⟨u, e, cs, g, base', -1, false, rfl, st, e18, .inr rfl, ?_⟩
        refine ⟨_, rfl, rfl, _, rfl, ifT rfl ?_⟩
        refine ⟨_, rfl, _, rfl, by show 2 ≤ sizeLine; decide, fun z hz => ?_⟩
        have s3 := same_upd (o := .tup [.ref lo, .ref hi]) hz
        exact k z _ none s3 (.inl ⟨rfl, rfl⟩) ⟨lo, hi, upd_same, s3 _ _ hl, s3 _ _ hh⟩
theorem ok_ThresholdObserver_accept (T : Txt K mg a) : FnOk P w K mg base CX0 5 a.f_ThresholdObserver_accept a.d_ThresholdObserver_accept ["self", "lows", "highs", "stretch", "observation"] (spAcc a) := by
  have G_Stretch_continued : FnOk P w K mg base CX0 4 a.f_Stretch_continued a.d_Stretch_continued ["self", "tick"] (spCont a) := ok_Stretch_continued T
  refine T.F_ThresholdObserver_accept.ok sc_ThresholdObserver_accept (fun vs H Q E h => ?_) (fun cdv A outer s H vs Q E hr h => ?_)
  · obtain ⟨x, ac, dx, u0, l0', h0', p, q, s, ob, w, l0, l1, h0, h1, rs, cs, g, base, on, b, t, rfl, _⟩ := h
    rfl
  · obtain ⟨x, ac, dx, u0, l0', h0', p, q, s2, ob, wv, l0, l1, h0, h1, rs, cs, g, base', on, b, t, rfl, hx, ha, hz, hp, hq, st, ho, k⟩ := h
    refine ⟨_, (pss_cons (ps_fld (pv 0) (pv 1) rfl)
      (pss_cons (ps_fld (pv 0) (pv 2) rfl)
      (pss_cons (ps_fld (pv 0) (pe_meth (pv 3) T.cl_Stretch T.me_Stretch_continued G_Stretch_continued (hr.mono (by decide)) (b_Stretch_continued T) .nil pass0 (pa_cons (pe_op op_add (pe_ix (show IxR _ (rIxT K) from ix_tup) (pv 4) pe_int (fun _ _ => rfl)) pe_int) pa_nil)) rfl)
      (pss_cons (ps_expr (pe_bm PySem.F.plainAttrs_list PySem.F.slot_list_append PySem.F.type_list_append mt_append (pe_fld (pv 0) rfl) (pa_cons (pv 4) pa_nil)))
      (pss_one (ps_ret (pe_tup (pa_cons (pe_op op_add (pe_op op_sub (pe_ix (show IxR _ (rIxT K) from ix_tup) (pv 1) pe_int (fun _ _ => rfl)) (pe_ix (show IxR _ (rIxT K) from ix_tup) (pv 1) pe_int (fun _ _ => rfl))) pe_int) (pa_cons (pe_op op_add (pe_op op_sub (pe_ix (show IxR _ (rIxT K) from ix_tup) (pv 2) pe_int (fun _ _ => rfl)) (pe_ix (show IxR _ (rIxT K) from ix_tup) (pv 2) pe_int (fun _ _ => rfl))) pe_int) pa_nil))))))))), ?_⟩
    refine ⟨_, rfl, _, rfl, x, _, dx, _, rfl, hx, T.cl_ThresholdObserver, T.na_ThresholdObserver__lows, by show 4 < 1000; decide, ?_⟩
    refine ⟨_, rfl, _, rfl, x, _, dx, _, rfl, upd_same, T.cl_ThresholdObserver, T.na_ThresholdObserver__highs, by show 4 < 1000; decide, ?_⟩
    generalize hH3 : upd (upd H x _) x _ = H3
    have hx3 : H3 x = some (.ins a.c_ThresholdObserver dx [("_unseen", .ref u0), ("_lows", .ref p), ("_highs", .ref q), ("_accepted", .ref ac)]) := by rw [← hH3, upd_same]; rfl
    have fr3 : Fr1 x H H3 := by rw [← hH3]; exact Fr1.upd.trans Fr1.upd
    have np : p ≠ x := ne_of hp hx (fun z => nomatch z)
    have nq : q ≠ x := ne_of hq hx (fun z => nomatch z)
    have na : ac ≠ x := ne_of ha hx (fun z => nomatch z)
    have no : ob ≠ x := ne_of ho hx (fun z => nomatch z)
    have nax : ac ≠ p := ne_of ha hp (fun z => nomatch z)
    have naq : ac ≠ q := ne_of ha hq (fun z => nomatch z)
    have nao : ac ≠ ob := ne_of ha ho (fun z => nomatch z)
    have st3 := st.fr2 hx ha (Fr2.of1 fr3)
    have ho3 := fr3 _ _ no ho
    have ha3 := fr3 _ _ na ha
    obtain ⟨ds, tds, dds, hs3, _⟩ := id st3
    refine ⟨_, rfl, s2, ds, _, rfl, hs3, rfl, _, rfl, ob, _, _, _, rfl, rfl, SqT.of ho3, rfl, _, _, rfl, rfl, s2, t + 1, b, cs, g, base', on, rfl, st3, fun u H4 sm4 hu st4 => ?_⟩
    refine ⟨_, rfl, x, _, dx, _, rfl, sm4 _ _ hx3, T.cl_ThresholdObserver, T.na_ThresholdObserver__unseen, by show 4 < 1000; decide, ?_⟩
    generalize hH5 : upd H4 x _ = H5
    have hx5 : H5 x = some (.ins a.c_ThresholdObserver dx [("_unseen", .ref u), ("_lows", .ref p), ("_highs", .ref q), ("_accepted", .ref ac)]) := by rw [← hH5, upd_same]; rfl
    have fr5 : Fr1 x H4 H5 := by rw [← hH5]; exact Fr1.upd
    have fr35 : Fr1 x H3 H5 := (Fr1.of sm4).trans fr5
    have ha5 := fr35 _ _ na ha3
    refine ⟨_, rfl, x, _, dx, _, _, rfl, hx5, T.cl_ThresholdObserver, T.na_ThresholdObserver__accepted, rfl, .inl ⟨rfl, _, SqL.of ha5⟩, _, rfl, ac, _, _, rfl, rfl, ha5, Nat.lt_of_le_of_lt (by rw [List.length_map]; exact hz) (by decide : 1000 < sizeLine), ?_⟩
    generalize hH6 : upd H5 ac _ = H6
    have fr6 : Fr1 ac H5 H6 := by rw [← hH6]; exact Fr1.upd
    have ha6 : H6 ac = some (.lst ((rs ++ [ob]).map V.ref)) := by rw [← hH6, upd_same, List.map_append]; rfl
    have hp6 := fr6 _ _ (Ne.symm nax) (fr35 _ _ np (fr3 _ _ np hp))
    have hq6 := fr6 _ _ (Ne.symm naq) (fr35 _ _ nq (fr3 _ _ nq hq))
    have hx6 := fr6 _ _ (Ne.symm na) hx5
    refine ⟨_, rfl, p, _, _, _, rfl, rfl, SqT.of hp6, rfl, _, rfl, p, _, _, _, rfl, rfl, SqT.of hp6, rfl, _, _, rfl, rfl, _, _, rfl, rfl, _, rfl, q, _, _, _, rfl, rfl, SqT.of hq6, rfl, _, rfl, q, _, _, _, rfl, rfl, SqT.of hq6, rfl, _, _, rfl, rfl, _, _, rfl, rfl, by show 2 ≤ sizeLine; decide, fun z hz => ?_⟩
    have s7 := same_upd (o := .tup [.int (l1 - l0 + 1), .int (h1 - h0 + 1)]) hz
    have st6 := st4.fr2 (sm4 _ _ hx3) (sm4 _ _ ha3) ((Fr2.of1 fr5).trans (Fr2.of1' fr6))
    exact k z _ ((((Fr2.of1 fr3).trans (Fr2.of1 fr35)).trans (Fr2.of1' fr6)).trans (Fr2.of s7)) upd_same ⟨dx, u, p, q, s7 _ _ hx6, st6.same s7, s7 _ _ hp6, s7 _ _ hq6, s7 _ _ ha6⟩
theorem ok_ThresholdObserver_see_rest (T : Txt K mg a) (ER : ErT P K mg er) (EX : ErX K er) : FnOk P w K mg base (L2.CX P w) 6 a.f_ThresholdObserver_see_rest a.d_ThresholdObserver_see_rest ["self", "tick"] (spSee a er "rest" Ob.rest 1) := by
  have G_check_number : FnOk P w K mg base CX0 1 a.f_check_number a.d_check_number ["number", "least", "greatest"] spNum := ok_check_number T
  have G_ThresholdObserver_ranges_after_rest : FnOk P w K mg base CX0 4 a.f_ThresholdObserver_ranges_after_rest a.d_ThresholdObserver_ranges_after_rest ["self", "end"] (spRar a) := ok_ThresholdObserver_ranges_after_rest T
  have G_ThresholdObserver_accept : FnOk P w K mg base CX0 5 a.f_ThresholdObserver_accept a.d_ThresholdObserver_accept ["self", "lows", "highs", "stretch", "observation"] (spFrame (spAcc a)) := (ok_ThresholdObserver_accept T).frame
  have G_check_ranges := ok_check_ranges (P := P) (w := w) (base := base) T ER EX
  refine T.F_ThresholdObserver_see_rest.okX sc_ThresholdObserver_see_rest (fun vs H Q E h => ?_) (fun cdv A outer s H vs Q E hr h => ?_)
  · obtain ⟨S, x, ac, t, o, rs, rfl, _⟩ := h
    rfl
  · obtain ⟨S, x, ac, t, o, rs, rfl, ls, obc, hz, bt, t18, k⟩ := h
    have ob := obc.same cut_same
    obtain ⟨dx, u, lo, hi, hxc, stc, hlc, hhc, hac⟩ := id obc
    have hx := cut_some hxc
    have st := stc.same cut_same
    have hl := cut_some hlc
    have hh := cut_some hhc
    have ha := cut_some hac
    obtain ⟨du, td, d, hu, dd, hd⟩ := id st
    refine ⟨_, (pss_cons (ps_expr (pe_call G_check_number (hr.mono (by decide)) (by rfl) T.mg_check_number T.F_check_number.kp (b_check_number T) .nil pass0 (pa_cons (pv 1) (pa_cons (pe_fld (pe_fld (pv 0) rfl) rfl) (pa_cons (pe_glob (v := .int 1000000000000000000) rfl T.mg_MOST_TICKS.choose_spec ⟨_, rfl⟩) pa_nil)))))
      (pss_cons (ps_asg (pe_meth (pv 0) T.cl_ThresholdObserver T.me_ThresholdObserver_ranges_after_rest G_ThresholdObserver_ranges_after_rest (hr.mono (by decide)) (b_ThresholdObserver_ranges_after_rest T) .nil pass0 (pa_cons (pe_op op_add (pv 1) pe_int) pa_nil)) (pg_tup rfl (pgs_cons (pg_name (i := 2) sc_ThresholdObserver_see_rest.nd rfl (Or.inl rfl)) (pgs_cons (pg_name (i := 3) sc_ThresholdObserver_see_rest.nd rfl (Or.inl rfl)) pgs_nil))))
      (pss_cons (ps_expr (pe_call G_check_ranges (hr.mono (by decide)) (by rfl) T.mg_check_ranges T.F_check_ranges.kp (b_check_ranges T) .nil (passes_call (takes_of rfl rfl rfl rfl) (fun _ _ _ _ h => h)) (pa_cons (pv 2) (pa_cons (pv 3) pa_nil))))
      (pss_one (ps_ret (pe_meth (pv 0) T.cl_ThresholdObserver T.me_ThresholdObserver_accept G_ThresholdObserver_accept (hr.mono (by decide)) (b_ThresholdObserver_accept T) .nil pass0 (pa_cons (pv 2) (pa_cons (pv 3) (pa_cons (pe_fld (pv 0) rfl) (pa_cons (pe_tup (pa_cons pe_str (pa_cons (pv 1) pa_nil))) pa_nil)))))))))), ?_⟩
    refine ⟨_, rfl, _, rfl, x, _, dx, _, _, rfl, hx, T.cl_ThresholdObserver, T.na_ThresholdObserver__unseen, rfl, u, _, du, _, _, rfl, hu, T.cl_Stretch, T.na_Stretch_begin, rfl, _, _, _, rfl, by omega, by omega, ?_⟩
    refine ⟨_, rfl, x, dx, _, rfl, hx, rfl, _, rfl, _, _, rfl, rfl, x, ac, t + 1, o, rs, rfl, ob, by omega, by omega, by omega, fun z H1 oe sm ex ⟨p, q, hz1, hp1, hq1⟩ => ?_⟩
    refine ⟨z, _, rfl, SqT.of hz1, rfl, _, _, rfl, _, _, rfl, rfl, ?_⟩
    have ob1 := ob.same sm
    refine ⟨_, rfl, _, rfl, p, q, _, _, _, _, rfl, hp1, hq1, fun bad => (k oe ex).1 bad _ sm, fun ok => ?_⟩
    refine ⟨_, rfl, x, dx, _, rfl, sm _ _ hx, rfl, _, rfl, _, rfl, _, rfl, x, _, dx, _, _, rfl, sm _ _ hx, T.cl_ThresholdObserver, T.na_ThresholdObserver__unseen, rfl, _, rfl, by show 2 ≤ sizeLine; decide, fun r hr2 => ?_⟩
    have s2 := same_upd (o := .tup [.str "rest", .int t]) hr2
    have s3 := sm.trans s2
    have ls3 := ls_same ls s3
    have c3 := sameCut (S := S) s3
    refine ⟨S, ls3, x, ac, dx, u, lo, hi, p, q, u, r, _, _, _, _, _, rs, _, _, _, _, _, t, rfl, c3 _ _ hxc, c3 _ _ hac, hz, cut_tup ls3 (s2 _ _ hp1), cut_tup ls3 (s2 _ _ hq1), stc.same c3, cut_tup ls3 upd_same, fun y H' fr hy oa n0 => ?_⟩
    exact (k oe ex).2 ok y r _ ((Fr2.of s3).trans (frmF fr)) (frmA n0 hy) (frmA n0 (fr _ _ (ne_of (cut_tup ls3 upd_same) (c3 _ _ hxc) (fun z => nomatch z)) (ne_of (cut_tup ls3 upd_same) (c3 _ _ hac) (fun z => nomatch z)) (cut_tup ls3 upd_same))) (by rw [frm n0]; exact oa)
theorem ok_ThresholdObserver_see_switching (T : Txt K mg a) (ER : ErT P K mg er) (EX : ErX K er) : FnOk P w K mg base (L2.CX P w) 6 a.f_ThresholdObserver_see_switching a.d_ThresholdObserver_see_switching ["self", "tick"] (spSee a er "switching" Ob.sw 0) := by
  have G_check_number : FnOk P w K mg base CX0 1 a.f_check_number a.d_check_number ["number", "least", "greatest"] spNum := ok_check_number T
  have G_Stretch_degrees_at : FnOk P w K mg base CX0 2 a.f_Stretch_degrees_at a.d_Stretch_degrees_at ["self", "tick"] (spDeg a) := ok_Stretch_degrees_at T
  have G_Stretch_switched : FnOk P w K mg base CX0 4 a.f_Stretch_switched a.d_Stretch_switched ["self", "tick"] (spFrame (spSw a)) := (oks_Stretch_switched T).frame
  have G_ThresholdObserver_ranges_after_rest : FnOk P w K mg base CX0 4 a.f_ThresholdObserver_ranges_after_rest a.d_ThresholdObserver_ranges_after_rest ["self", "end"] (spRar a) := ok_ThresholdObserver_ranges_after_rest T
  have G_ThresholdObserver_accept : FnOk P w K mg base CX0 5 a.f_ThresholdObserver_accept a.d_ThresholdObserver_accept ["self", "lows", "highs", "stretch", "observation"] (spFrame (spAcc a)) := (ok_ThresholdObserver_accept T).frame
  have G_check_ranges := ok_check_ranges (P := P) (w := w) (base := base) T ER EX
  refine T.F_ThresholdObserver_see_switching.okX sc_ThresholdObserver_see_switching (fun vs H Q E h => ?_) (fun cdv A outer s H vs Q E hr h => ?_)
  · obtain ⟨S, x, ac, t, o, rs, rfl, _⟩ := h
    rfl
  · obtain ⟨S, x, ac, t, o, rs, rfl, ls, obc, hz, bt, t18, k⟩ := h
    have ob := obc.same cut_same
    obtain ⟨dx, u, lo, hi, hxc, stc, hlc, hhc, hac⟩ := id obc
    have hx := cut_some hxc
    have st := stc.same cut_same
    have hl := cut_some hlc
    have hh := cut_some hhc
    have ha := cut_some hac
    obtain ⟨du, td, d, hu, dd, hd⟩ := id st
    refine ⟨_, (pss_cons (ps_expr (pe_call G_check_number (hr.mono (by decide)) (by rfl) T.mg_check_number T.F_check_number.kp (b_check_number T) .nil pass0 (pa_cons (pv 1) (pa_cons (pe_fld (pe_fld (pv 0) rfl) rfl) (pa_cons (pe_glob (v := .int 1000000000000000000) rfl T.mg_MOST_TICKS.choose_spec ⟨_, rfl⟩) pa_nil)))))
      (pss_cons (ps_asg (pe_meth (pv 0) T.cl_ThresholdObserver T.me_ThresholdObserver_ranges_after_rest G_ThresholdObserver_ranges_after_rest (hr.mono (by decide)) (b_ThresholdObserver_ranges_after_rest T) .nil pass0 (pa_cons (pv 1) pa_nil)) (pg_tup rfl (pgs_cons (pg_name (i := 2) sc_ThresholdObserver_see_switching.nd rfl (Or.inl rfl)) (pgs_cons (pg_name (i := 3) sc_ThresholdObserver_see_switching.nd rfl (Or.inl rfl)) pgs_nil))))
      (pss_cons (ps_set (i := 4) sc_ThresholdObserver_see_switching.nd rfl (Or.inl rfl) (pe_meth (pe_fld (pv 0) rfl) T.cl_Stretch T.me_Stretch_degrees_at G_Stretch_degrees_at (hr.mono (by decide)) (b_Stretch_degrees_at T) .nil pass0 (pa_cons (pv 1) pa_nil)))
      (pss_cons (ps_if (pt_val (pe_fld (pe_fld (pv 0) rfl) rfl)) (pss_one (ps_set (i := 3) sc_ThresholdObserver_see_switching.nd rfl (Or.inl rfl) (pe_tup (pa_cons (pe_ix (show IxR _ (rIxT K) from ix_tup) (pv 3) pe_int (fun _ _ => rfl)) (pa_cons (pe_callB (call_min2 rfl) (by rfl) T.z_min (by decide +kernel) (pa_cons (pe_ix (show IxR _ (rIxT K) from ix_tup) (pv 3) pe_int (fun _ _ => rfl)) (pa_cons (pe_op op_sub (pv 4) pe_int) pa_nil))) pa_nil))))) (pss_one (ps_set (i := 2) sc_ThresholdObserver_see_switching.nd rfl (Or.inl rfl) (pe_tup (pa_cons (pe_callB (call_max2 rfl) (by rfl) T.z_max (by decide +kernel) (pa_cons (pe_ix (show IxR _ (rIxT K) from ix_tup) (pv 2) pe_int (fun _ _ => rfl)) (pa_cons (pe_op op_add (pv 4) pe_int) pa_nil))) (pa_cons (pe_ix (show IxR _ (rIxT K) from ix_tup) (pv 2) pe_int (fun _ _ => rfl)) pa_nil))))))
      (pss_cons (ps_expr (pe_call G_check_ranges (hr.mono (by decide)) (by rfl) T.mg_check_ranges T.F_check_ranges.kp (b_check_ranges T) .nil (passes_call (takes_of rfl rfl rfl rfl) (fun _ _ _ _ h => h)) (pa_cons (pv 2) (pa_cons (pv 3) pa_nil))))
      (pss_one (ps_ret (pe_meth (pv 0) T.cl_ThresholdObserver T.me_ThresholdObserver_accept G_ThresholdObserver_accept (hr.mono (by decide)) (b_ThresholdObserver_accept T) .nil pass0 (pa_cons (pv 2) (pa_cons (pv 3) (pa_cons (pe_meth (pe_fld (pv 0) rfl) T.cl_Stretch T.me_Stretch_switched G_Stretch_switched (hr.mono (by decide)) (b_Stretch_switched T) .nil pass0 (pa_cons (pv 1) pa_nil)) (pa_cons (pe_tup (pa_cons pe_str (pa_cons (pv 1) pa_nil))) pa_nil)))))))))))), ?_⟩
    refine ⟨_, rfl, _, rfl, x, _, dx, _, _, rfl, hx, T.cl_ThresholdObserver, T.na_ThresholdObserver__unseen, rfl, u, _, du, _, _, rfl, hu, T.cl_Stretch, T.na_Stretch_begin, rfl, _, _, _, rfl, by omega, by omega, ?_⟩
    refine ⟨_, rfl, x, dx, _, rfl, hx, rfl, _, rfl, x, ac, t, o, rs, rfl, ob, by omega, by omega, by omega, fun z H1 oe sm ex ⟨p, q, hz1, hp1, hq1⟩ => ?_⟩
    refine ⟨z, _, rfl, SqT.of hz1, rfl, _, _, rfl, _, _, rfl, rfl, ?_⟩
    have ex' : ExO o (t + 0) oe := ex
    refine ⟨_, rfl, x, _, dx, _, _, rfl, sm _ _ hx, T.cl_ThresholdObserver, T.na_ThresholdObserver__unseen, rfl, u, du, _, rfl, sm _ _ hu, rfl, _, rfl, u, t, _, _, _, _, _, rfl, st.same sm, fun H2 sm2 => ?_⟩
    have s12 := sm.trans sm2
    refine ⟨_, rfl, x, _, dx, _, _, rfl, s12 _ _ hx, T.cl_ThresholdObserver, T.na_ThresholdObserver__unseen, rfl, u, _, du, _, _, rfl, s12 _ _ hu, T.cl_Stretch, T.na_Stretch_on, rfl, _, rfl, ?_⟩
    obtain ⟨cs, g, on, b, base', l0, l1, h0, h1⟩ := o
    cases on with
    | true =>
      refine ifT rfl ?_
      refine ⟨_, rfl, q, _, _, _, rfl, rfl, SqT.of (sm2 _ _ hq1), rfl, _, rfl, q, _, _, _, rfl, rfl, SqT.of (sm2 _ _ hq1), rfl, _, rfl, _, _, rfl, rfl, _, _, rfl, by show 2 ≤ sizeLine; decide, fun q2 hq2 => ?_⟩
      have s23 := same_upd (o := .tup [.int (rH true oe h0), .int (mnv h1 (Th.Dg cs (Th.gon g true) base' t - 1))]) hq2
      have s3 := s12.trans s23
      refine ⟨_, rfl, _, rfl, p, q2, _, _, _, _, rfl, ((sm2.trans s23) _ _ hp1), upd_same, fun bad => (k oe ex').1 bad _ s3, fun ok => ?_⟩
      refine ⟨_, rfl, x, dx, _, rfl, s3 _ _ hx, rfl, _, rfl, _, rfl, _, rfl, x, _, dx, _, _, rfl, s3 _ _ hx, T.cl_ThresholdObserver, T.na_ThresholdObserver__unseen, rfl, u, du, _, rfl, s3 _ _ hu, rfl, _, rfl, S, ls_same ls s3, u, t, _, _, _, _, _, rfl, stc.same (sameCut (S := S) s3), fun sw H4 s4c _ st4 n4 => ⟨_, rfl, by show 2 ≤ sizeLine; decide, fun r hr2 => ?_⟩⟩
      have s4 := frmS s4c
      have s5 := same_upd (o := .tup [.str "switching", .int t]) hr2
      have s45 := s4.trans s5
      have s6 := s3.trans s45
      have ls6 := ls_same ls s6
      have c6 := sameCut (S := S) s6
      have c5 := sameCut (S := S) s5
      rw [frm n4] at c5
      refine ⟨S, ls6, x, ac, dx, u, lo, hi, p, q2, sw, r, _, _, _, _, _, rs, _, _, _, _, _, t, rfl, c6 _ _ hxc, c6 _ _ hac, hz, cut_tup ls6 (s45 _ _ ((sm2.trans s23) _ _ hp1)), cut_tup ls6 (s45 _ _ upd_same), st4.same c5, cut_tup ls6 upd_same, fun y H' fr hy oa n0 => ?_⟩
      exact (k oe ex').2 ok y r _ ((Fr2.of s6).trans (frmF fr)) (frmA n0 hy) (frmA n0 (fr _ _ (ne_of (cut_tup ls6 upd_same) (c6 _ _ hxc) (fun z => nomatch z)) (ne_of (cut_tup ls6 upd_same) (c6 _ _ hac) (fun z => nomatch z)) (cut_tup ls6 upd_same))) (by rw [frm n0]; exact oa)
    | false =>
      refine ifF rfl ?_
      refine ⟨_, rfl, p, _, _, _, rfl, rfl, SqT.of (sm2 _ _ hp1), rfl, _, rfl, _, _, rfl, rfl, _, _, rfl, _, rfl, p, _, _, _, rfl, rfl, SqT.of (sm2 _ _ hp1), rfl, by show 2 ≤ sizeLine; decide, fun p2 hp2 => ?_⟩
      have s23 := same_upd (o := .tup [.int (mxv l0 (Th.Dg cs (Th.gon g false) base' t + 1)), .int (rL false oe l1)]) hp2
      have s3 := s12.trans s23
      refine ⟨_, rfl, _, rfl, p2, q, _, _, _, _, rfl, upd_same, ((sm2.trans s23) _ _ hq1), fun bad => (k oe ex').1 bad _ s3, fun ok => ?_⟩
      refine ⟨_, rfl, x, dx, _, rfl, s3 _ _ hx, rfl, _, rfl, _, rfl, _, rfl, x, _, dx, _, _, rfl, s3 _ _ hx, T.cl_ThresholdObserver, T.na_ThresholdObserver__unseen, rfl, u, du, _, rfl, s3 _ _ hu, rfl, _, rfl, S, ls_same ls s3, u, t, _, _, _, _, _, rfl, stc.same (sameCut (S := S) s3), fun sw H4 s4c _ st4 n4 => ⟨_, rfl, by show 2 ≤ sizeLine; decide, fun r hr2 => ?_⟩⟩
      have s4 := frmS s4c
      have s5 := same_upd (o := .tup [.str "switching", .int t]) hr2
      have s45 := s4.trans s5
      have s6 := s3.trans s45
      have ls6 := ls_same ls s6
      have c6 := sameCut (S := S) s6
      have c5 := sameCut (S := S) s5
      rw [frm n4] at c5
      refine ⟨S, ls6, x, ac, dx, u, lo, hi, p2, q, sw, r, _, _, _, _, _, rs, _, _, _, _, _, t, rfl, c6 _ _ hxc, c6 _ _ hac, hz, cut_tup ls6 (s45 _ _ upd_same), cut_tup ls6 (s45 _ _ ((sm2.trans s23) _ _ hq1)), st4.same c5, cut_tup ls6 upd_same, fun y H' fr hy oa n0 => ?_⟩
      exact (k oe ex').2 ok y r _ ((Fr2.of s6).trans (frmF fr)) (frmA n0 hy) (frmA n0 (fr _ _ (ne_of (cut_tup ls6 upd_same) (c6 _ _ hxc) (fun z => nomatch z)) (ne_of (cut_tup ls6 upd_same) (c6 _ _ hac) (fun z => nomatch z)) (cut_tup ls6 upd_same))) (by rw [frm n0]; exact oa)
def getSp2 (C : Addr) (m : Str) : Sp := getSp C m
theorem ok_ThresholdObserver_low_range (T : Txt K mg a) : FnOk P w K mg base CX0 1 a.f_ThresholdObserver_low_range a.d_ThresholdObserver_low_range ["self"] (getSp a.c_ThresholdObserver "_lows") := by
  refine T.F_ThresholdObserver_low_range.ok sc_ThresholdObserver_low_range (fun vs H Q E h => ?_) (fun cdv A outer s H vs Q E hr h => ?_)
  · obtain ⟨z, dx, fs, v, rfl, _⟩ := h
    rfl
  · obtain ⟨z, dx, fs, v, rfl, hz, l, q⟩ := h
    exact ⟨_, (pss_one (ps_ret (pe_fld (pv 0) rfl))), ⟨_, rfl, z, _, dx, fs, v, rfl, hz, T.cl_ThresholdObserver, T.na_ThresholdObserver__lows, l, q⟩⟩
theorem ok_ThresholdObserver_high_range (T : Txt K mg a) : FnOk P w K mg base CX0 1 a.f_ThresholdObserver_high_range a.d_ThresholdObserver_high_range ["self"] (getSp a.c_ThresholdObserver "_highs") := by
  refine T.F_ThresholdObserver_high_range.ok sc_ThresholdObserver_high_range (fun vs H Q E h => ?_) (fun cdv A outer s H vs Q E hr h => ?_)
  · obtain ⟨z, dx, fs, v, rfl, _⟩ := h
    rfl
  · obtain ⟨z, dx, fs, v, rfl, hz, l, q⟩ := h
    exact ⟨_, (pss_one (ps_ret (pe_fld (pv 0) rfl))), ⟨_, rfl, z, _, dx, fs, v, rfl, hz, T.cl_ThresholdObserver, T.na_ThresholdObserver__highs, l, q⟩⟩
def spSeen : Sp := fun vs H Q _ => ∃ (x ac : Addr) (o : Ob) (rs : List Addr), vs = [.ref x] ∧ ObAt a H x ac o rs ∧ Q (.int o.b) H
def spRecs : Sp := fun vs H Q _ => ∃ (x ac : Addr) (o : Ob) (rs : List Addr), vs = [.ref x] ∧ ObAt a H x ac o rs ∧ rs.length ≤ 1000 ∧ ∀ l H', Same H H' → H' l = some (.lst (rs.map V.ref)) → Q (.ref l) H'
theorem ok_ThresholdObserver_seen_ticks (T : Txt K mg a) : FnOk P w K mg base CX0 1 a.f_ThresholdObserver_seen_ticks a.d_ThresholdObserver_seen_ticks ["self"] (spSeen (a := a)) := by
  refine T.F_ThresholdObserver_seen_ticks.ok sc_ThresholdObserver_seen_ticks (fun vs H Q E h => ?_) (fun cdv A outer s H vs Q E hr h => ?_)
  · obtain ⟨x, ac, o, rs, rfl, _⟩ := h
    rfl
  · obtain ⟨x, ac, o, rs, rfl, ⟨dx, u, lo, hi, hx, ⟨du, td, d, hu, _⟩, _⟩, k⟩ := h
    exact ⟨_, (pss_one (ps_ret (pe_fld (pe_fld (pv 0) rfl) rfl))), ⟨_, rfl, x, _, dx, _, _, rfl, hx, T.cl_ThresholdObserver, T.na_ThresholdObserver__unseen, rfl, u, _, du, _, _, rfl, hu, T.cl_Stretch, T.na_Stretch_begin, rfl, k⟩⟩
theorem ok_ThresholdObserver_records (T : Txt K mg a) : FnOk P w K mg base CX0 1 a.f_ThresholdObserver_records a.d_ThresholdObserver_records ["self"] (spRecs (a := a)) := by
  refine T.F_ThresholdObserver_records.ok sc_ThresholdObserver_records (fun vs H Q E h => ?_) (fun cdv A outer s H vs Q E hr h => ?_)
  · obtain ⟨x, ac, o, rs, rfl, _⟩ := h
    rfl
  · obtain ⟨x, ac, o, rs, rfl, ⟨dx, u, lo, hi, hx, _, _, _, ha⟩, hz, k⟩ := h
    refine ⟨_, (pss_one (ps_ret (pe_callTy call_list_of (by rfl) T.z_list (by decide +kernel) (pa_cons (pe_fld (pv 0) rfl) pa_nil)))), ?_⟩
    refine ⟨_, rfl, x, _, dx, _, _, rfl, hx, T.cl_ThresholdObserver, T.na_ThresholdObserver__accepted, rfl, ac, _, rfl, .inl (SqL.of ha), fun l hl => ?_⟩
    exact k l _ (same_upd hl) upd_same
theorem ok_Weather_changes (T : Txt K mg a) : FnOk P w K mg base CX0 1 a.f_Weather_changes a.d_Weather_changes ["self"] (getSp a.c_Weather "_changes") := by
  refine T.F_Weather_changes.ok sc_Weather_changes (fun vs H Q E h => ?_) (fun cdv A outer s H vs Q E hr h => ?_)
  · obtain ⟨z, dx, fs, v, rfl, _⟩ := h
    rfl
  · obtain ⟨z, dx, fs, v, rfl, hz, l, q⟩ := h
    exact ⟨_, (pss_one (ps_ret (pe_fld (pv 0) rfl))), ⟨_, rfl, z, _, dx, fs, v, rfl, hz, T.cl_Weather, T.na_Weather__changes, l, q⟩⟩
theorem Fr1.free {x y : Addr} {H H' : Hp} (f : Fr1 x H H') (n : y ≠ x) (h : H' y = none) : H y = none := by
  cases e : H y with
  | none => rfl
  | some u => rw [f _ _ n e] at h; cases h
theorem ok_ThresholdObserver_init (T : Txt K mg a) : FnOk P w K mg base CX0 4 a.f_ThresholdObserver_init a.d_ThresholdObserver_init ["self", "weather", "gain", "start", "on"] (spTi a) := by
  have G_check_gain : FnOk P w K mg base CX0 1 a.f_check_gain a.d_check_gain ["gain"] spGain := ok_check_gain T
  have G_check_number : FnOk P w K mg base CX0 1 a.f_check_number a.d_check_number ["number", "least", "greatest"] spNum := ok_check_number T
  have G_Weather_changes : FnOk P w K mg base CX0 1 a.f_Weather_changes a.d_Weather_changes ["self"] (getSp a.c_Weather "_changes") := ok_Weather_changes T
  have G_both_drifts : FnOk P w K mg base CX0 3 a.f_both_drifts a.d_both_drifts ["changes", "gain"] (spBoth a) := ok_both_drifts T
  have G_Stretch_init : FnOk P w K mg base CX0 2 a.f_Stretch_init a.d_Stretch_init ["self", "drifts", "on", "begin", "degrees"] (spSi a) := ok_Stretch_init T
  refine T.F_ThresholdObserver_init.ok sc_ThresholdObserver_init (fun vs H Q E h => ?_) (fun cdv A outer s H vs Q E hr h => ?_)
  · obtain ⟨x, dx, ww, cs, g, st, on, rfl, _⟩ := h
    rfl
  · obtain ⟨x, dx, ww, cs, g, st, on, rfl, hx, ⟨dw, t, hw, ht⟩, c, g1, g2, t1, t2, k⟩ := h
    refine ⟨_, (pss_cons (ps_expr (pe_call G_check_gain (hr.mono (by decide)) (by rfl) T.mg_check_gain T.F_check_gain.kp (b_check_gain T) .nil pass0 (pa_cons (pv 2) pa_nil)))
      (pss_cons (ps_expr (pe_call G_check_number (hr.mono (by decide)) (by rfl) T.mg_check_number T.F_check_number.kp (b_check_number T) .nil pass0 (pa_cons (pv 3) (pa_cons (pe_un un_neg (pe_glob (v := .int 1000000000000) rfl T.mg_MOST_DEGREES.choose_spec ⟨_, rfl⟩)) (pa_cons (pe_glob (v := .int 1000000000000) rfl T.mg_MOST_DEGREES.choose_spec ⟨_, rfl⟩) pa_nil)))))
      (pss_cons (ps_fld (pv 0) (pe_make T.mk_Stretch G_Stretch_init (hr.mono (by decide)) (by rfl) T.mg_Stretch (b_Stretch_init T) .nil pass0 (pa_cons (pe_call G_both_drifts (hr.mono (by decide)) (by rfl) T.mg_both_drifts T.F_both_drifts.kp (b_both_drifts T) .nil pass0 (pa_cons (pe_prop (pv 1) T.cl_Weather T.pr_Weather_changes G_Weather_changes (hr.mono (by decide)) (b_Weather_changes T) .nil pass0 rfl) (pa_cons (pv 2) pa_nil))) (pa_cons (pv 4) (pa_cons pe_int (pa_cons (pv 3) pa_nil))))) rfl)
      (pss_cons (ps_fld (pv 0) (pe_tup (pa_cons (pe_un un_neg (pe_glob (v := .int 1000000000000) rfl T.mg_MOST_DEGREES.choose_spec ⟨_, rfl⟩)) (pa_cons (pe_glob (v := .int 1000000000000) rfl T.mg_MOST_DEGREES.choose_spec ⟨_, rfl⟩) pa_nil))) rfl)
      (pss_cons (ps_fld (pv 0) (pe_tup (pa_cons (pe_un un_neg (pe_glob (v := .int 1000000000000) rfl T.mg_MOST_DEGREES.choose_spec ⟨_, rfl⟩)) (pa_cons (pe_glob (v := .int 1000000000000) rfl T.mg_MOST_DEGREES.choose_spec ⟨_, rfl⟩) pa_nil))) rfl)
      (pss_one (ps_fld (pv 0) (pe_lst pa_nil) rfl))))))), ?_⟩
    have nwx : ww ≠ x := ne_of hw hx (fun z => by injection z with z1 z2 z3; cases z3)
    refine ⟨_, rfl, g, rfl, g1, g2, ?_⟩
    refine ⟨_, rfl, _, rfl, _, _, _, rfl, by omega, by omega, ?_⟩
    refine ⟨_, rfl, ww, dw, _, rfl, hw, ww, dw, _, .ref t, rfl, hw, rfl, _, rfl, t, cs, g, rfl, ht, c, g1, g2, fun td H1 sm1 dd => ⟨_, rfl, _, rfl, fun z dz nz nd ne => ?_⟩⟩
    have sz := same_made (x := z) (dx := dz) (C := a.c_Stretch) nz nd
    refine ⟨[], z, dz, td, cs, g, _, on, 0, rfl, upd_same, by simp, by rw [del_nil]; exact dd.same sz, fun H2 fr st2 => ⟨rfl, ?_⟩⟩
    have sm2 := sm1.trans (Fr1.made nz nd fr)
    rw [del_nil] at st2
    have st2 : SAt a H2 z cs g on 0 st := by
      have e : st - Th.sumTo cs (Th.gon g on) 0 = st := Int.sub_zero st
      rw [e] at st2
      exact st2
    refine ⟨_, rfl, x, _, dx, _, rfl, sm2 _ _ hx, T.cl_ThresholdObserver, T.na_ThresholdObserver__unseen, by show 0 < 1000; decide, ?_⟩
    have hx2 := sm2 _ _ hx
    have nzx : z ≠ x := ne_of_none' (sm1 _ _ hx) nz
    generalize hH3 : upd H2 x _ = H3
    have hx3 : H3 x = some (.ins a.c_ThresholdObserver dx [("_unseen", .ref z)]) := by rw [← hH3, upd_same]; rfl
    have fr3 : Fr1 x H2 H3 := by rw [← hH3]; exact Fr1.upd
    refine ⟨_, rfl, by show 2 ≤ sizeLine; decide, fun p hp => ⟨_, rfl, x, _, dx, _, rfl, same_upd hp _ _ hx3, T.cl_ThresholdObserver, T.na_ThresholdObserver__lows, by show 1 < 1000; decide, ?_⟩⟩
    have npx : p ≠ x := ne_of_none' hx3 hp
    generalize hH4 : upd (upd H3 p _) x _ = H4
    have hx4 : H4 x = some (.ins a.c_ThresholdObserver dx [("_unseen", .ref z), ("_lows", .ref p)]) := by rw [← hH4, upd_same]; rfl
    have hp4 : H4 p = some (.tup [.int (-1000000000000), .int 1000000000000]) := by rw [← hH4, upd_ne npx, upd_same]
    have fr4 : Fr1 x H3 H4 := by rw [← hH4]; exact (Fr1.of (same_upd hp)).trans Fr1.upd
    refine ⟨_, rfl, by show 2 ≤ sizeLine; decide, fun q hq => ⟨_, rfl, x, _, dx, _, rfl, same_upd hq _ _ hx4, T.cl_ThresholdObserver, T.na_ThresholdObserver__highs, by show 2 < 1000; decide, ?_⟩⟩
    have nqx : q ≠ x := ne_of_none' hx4 hq
    generalize hH5 : upd (upd H4 q _) x _ = H5
    have hx5 : H5 x = some (.ins a.c_ThresholdObserver dx [("_unseen", .ref z), ("_lows", .ref p), ("_highs", .ref q)]) := by rw [← hH5, upd_same]; rfl
    have hq5 : H5 q = some (.tup [.int (-1000000000000), .int 1000000000000]) := by rw [← hH5, upd_ne nqx, upd_same]
    have fr5 : Fr1 x H4 H5 := by rw [← hH5]; exact (Fr1.of (same_upd hq)).trans Fr1.upd
    refine ⟨by show 0 ≤ sizeLine; decide, fun ac hac => ⟨_, rfl, x, _, dx, _, rfl, same_upd hac _ _ hx5, T.cl_ThresholdObserver, T.na_ThresholdObserver__accepted, by show 3 < 1000; decide, ?_⟩⟩
    have nax : ac ≠ x := ne_of_none' hx5 hac
    generalize hH6 : upd (upd H5 ac _) x _ = H6
    have hx6 : H6 x = some (.ins a.c_ThresholdObserver dx [("_unseen", .ref z), ("_lows", .ref p), ("_highs", .ref q), ("_accepted", .ref ac)]) := by rw [← hH6, upd_same]; rfl
    have hac6 : H6 ac = some (.lst []) := by rw [← hH6, upd_ne nax, upd_same]
    have fr6 : Fr1 x H5 H6 := by rw [← hH6]; exact (Fr1.of (same_upd hac)).trans Fr1.upd
    have fr35 : Fr1 x H2 H5 := (fr3.trans fr4).trans fr5
    have fr36 : Fr1 x H2 H6 := fr35.trans fr6
    have fr06 : Fr1 x H H6 := (Fr1.of sm2).trans fr36
    refine k ac H6 fr06 (((Fr1.of sm2).trans fr35).free nax hac) ⟨dx, z, p, q, hx6, ?_, (fr5.trans fr6) _ _ npx hp4, fr6 _ _ nqx hq5, hac6⟩
    exact (SAt.fr1 st2 (f := fr36) hx2)
end
end W6

set_option maxHeartbeats 4000000
/-! a lambda (no parameter, or one with a default) as a value: made, kept in a list, called by a def that gets it, also from a comprehension -/
namespace Ru
open PySem PySem.Spec PyProof.Rows L2 LamX
theorem sameU {H : Hp} {p : Addr} {o : HO} (h : H p = none) : Same H (upd H p o) := fun b u e => by rw [upd_ne (ne_of_none e h)]; exact e
/-- the lambda that stands at f -/
def LamO (q : Str) (params : Arguments) (body : Expr) (scope : Scope) (cl : List (Str × Addr)) (dV : Value) (c' f : Addr) : HO :=
  .ext fun h => ∃ doc pm ctv : Value, h.get? f = some (PySem.W.kdv_obj "<lambda>" q params (.expr body) scope cl dV doc pm c' ctv)
/-- its defaults -/
def DflH (H : Hp) (dV : Value) (ds : List V) : Prop := (ds = [] ∧ dV = .none) ∨ (ds ≠ [] ∧ ∃ T : Addr, dV = .ref T ∧ H T = some (.tup ds))
def LamAt (X : Cx) (H : Hp) (f : Addr) (params : Arguments) (body : Expr) (scope : Scope) (ds : List V) : Prop :=
  ∃ (c' : Addr) (dV : Value), H f = some (LamO (X.env.qual ++ "<lambda>") params body scope (cloFrom X.env.cells scope.names []) dV c' f) ∧ H c' = some (CodeO c' (X.env.qual ++ "<lambda>")) ∧ DflH H dV ds
theorem lamO_ne {q : Str} {params : Arguments} {body : Expr} {scope : Scope} {cl : List (Str × Addr)} {dV : Value} {c' f : Addr} (ps : Array Value) : LamO q params body scope cl dV c' f ≠ .tbl ps := fun z => by
  unfold LamO at z
  cases z
theorem LamAt.ext {X : Cx} {H H' : Hp} {f : Addr} {params : Arguments} {body : Expr} {scope : Scope} {ds : List V} (h : LamAt X H f params body scope ds) (e : ExtN H H') : LamAt X H' f params body scope ds := by
  obtain ⟨c', dV, h1, h2, h3⟩ := h
  refine ⟨c', dV, e _ _ h1 lamO_ne, e _ _ h2 codeO_ne, ?_⟩
  rcases h3 with h3 | ⟨h0, T, h3, h4⟩
  · exact .inl h3
  · exact .inr ⟨h0, T, h3, e _ _ h4 fun ps z => nomatch z⟩
theorem LamAt.same {X : Cx} {H H' : Hp} {f : Addr} {params : Arguments} {body : Expr} {scope : Scope} {ds : List V} (h : LamAt X H f params body scope ds) (e : Same H H') : LamAt X H' f params body scope ds := h.ext (ExtN.of e)
/-! ### making -/
section
variable {X : Cx} {pins : List (Addr × Obj)} {σ : L2.St} {H : Hp} {s : Shared}
theorem lam_tail {T : List (Addr × Str)} {c P : Addr} {params : Arguments} {body : Expr} {scope : Scope} {pos : Pos} {E : Value → Shared → Prop} {Q : Value → Shared → Prop} {dV : Value} {ds : List V} {fl : Nat} (I : Inv X pins σ H s) (TB : TabB X.base X.mg c P) (hcode : X.env.code = .ref c)
    (hm : (P, X.env.qual ++ "<lambda>") ∈ T) (hu : ∀ p ∈ T, p.1 = P → p.2 = X.env.qual ++ "<lambda>") (hT : Tabs T H) (hfree : ∀ y ∈ scope.names, y.2 = .free → ∃ c, X.env.cells.lookup y.1 = some c) (hd : DflH H dV ds)
    (h : ∀ (f : Addr) (H1 : Hp) (s' : Shared), Inv X pins σ H1 s' → ExtN H H1 → Tabs T H1 → H f = none → LamAt X H1 f params body scope ds → Q (.ref f) s') :
    wpAny (model X.prog X.w) X.A (makeTail "<lambda>" (X.env.qual ++ "<lambda>") params (.expr body) scope X.env dV .none none pos fl) Q E s := by
  obtain ⟨ps, hP, ht, ha⟩ := hT _ hm
  have bP : s.heap.BuiltinsAt X.mg P := TB.bm.keeps I.bk
  have hP' : s.heap.get? P = some { cls := .none, data := .fields ps } := I.hok P _ hP
  -- the object is laid and tracked
  have fin : ∀ (H1 : Hp) (h' : Heap) (tk : Nat) (c' : Addr) (doc ctv : Value), Inv X pins σ H1 { s with heap := h', toks := tk } → ExtN H H1 → Tabs T H1 → s.heap.objs.size ≤ h'.objs.size → H1 c' = some (CodeO c' (X.env.qual ++ "<lambda>")) →
      Q (.ref h'.objs.size) { s with heap := h'.push (PySem.W.kdv_obj "<lambda>" (X.env.qual ++ "<lambda>") params (.expr body) scope (cloFrom X.env.cells scope.names []) dV doc ((X.mg "__name__").getD .none) c' ctv), toks := tk } := fun H1 h' tk c' doc ctv I1 eN T1 hz hc => by
    have hf1 : H1 h'.objs.size = none := I1.hok.fresh (Nat.le_refl _)
    have sm : Same H1 (upd H1 h'.objs.size (LamO (X.env.qual ++ "<lambda>") params body scope (cloFrom X.env.cells scope.names []) dV c' h'.objs.size)) := sameU hf1
    have I2 := I1.laid (a := h'.objs.size) (o := LamO (X.env.qual ++ "<lambda>") params body scope (cloFrom X.env.cells scope.names []) dV c' h'.objs.size) (t' := tk)
      (h' := h'.push (PySem.W.kdv_obj "<lambda>" (X.env.qual ++ "<lambda>") params (.expr body) scope (cloFrom X.env.cells scope.names []) dV doc ((X.mg "__name__").getD .none) c' ctv))
      (fun b o e => Heap.get?_push_of_some _ e) (Nat.le_refl _) ⟨⟨doc, _, ctv, Heap.get?_push_size _ rfl⟩, ⟨_, Heap.get?_push_size _ rfl⟩, fun h1 h2 ⟨a, b, c, e⟩ st => ⟨a, b, c, st _ e⟩⟩
    refine h h'.objs.size _ _ I2 (eN.trans (ExtN.of sm)) (T1.ext sm) (I.hok.fresh hz) ⟨c', dV, upd_same, sm _ _ hc, ?_⟩
    rcases hd with z | ⟨z0, Td, z1, z2⟩
    · exact .inl z
    · exact .inr ⟨z0, Td, z1, sm _ _ (eN _ _ z2 fun ps z => nomatch z)⟩
  cases hc : codeAmong pos ps.toList with
  | none =>
    refine PySem.W.kdv_makeTail (mg := X.mg) (c := c) (P := P) (ps := ps) (closure_ok hfree) I.ok.glob (I.mod.glob.keeps I.bk) hcode (TB.code.keeps I.bk) hP' ht hc TB.gP bP fun c' ctv doc h' tk hx hge hlt hrec htb => ?_
    obtain ⟨c2, oc, vs, t, e2, hoc, hdd, hv⟩ := hrec
    cases e2
    have hsz : s.heap.objs.size ≤ h'.objs.size := Nat.le_trans hge (Nat.le_of_lt hlt)
    have nC : H c' = none := I.hok.fresh hge
    have I1 := inv_table (t' := tk) (more := #[rawInt pos.line, rawInt pos.col, .ref c']) (h' := h') I hP (fun b o hb e => hx b o hb e) htb hge ⟨oc, vs, t, hoc, hdd, hv⟩
    have hE : ExtN H (upd (upd H P (.tbl (ps ++ #[rawInt pos.line, rawInt pos.col, .ref c']))) c' (CodeO c' (X.env.qual ++ "<lambda>"))) := fun b o e n => by
      rw [upd_ne (ne_of_none e nC), upd_ne (fun z => n ps (Option.some.inj (e.symm.trans (by rw [z]; exact hP))))]
      exact e
    have eL : (ps ++ #[rawInt pos.line, rawInt pos.col, .ref c']).toList = ps.toList ++ [rawInt pos.line, rawInt pos.col, .ref c'] := by simp
    refine fin _ h' tk c' doc ctv I1 hE (fun p hp => ?_) hsz upd_same
    by_cases hb : p.1 = P
    · rw [hu p hp hb, hb]
      refine ⟨_, by rw [upd_ne (ne_of_none hP nC), upd_same], by rw [eL]; exact PySem.TriplesOk_snoc _ _ _ _ ht, fun p' cv hcv => ?_⟩
      rw [eL] at hcv
      rcases among_app _ ht hcv with z | z
      · obtain ⟨c0, e1, e2⟩ := ha p' cv z
        exact ⟨c0, e1, hE _ _ e2 codeO_ne⟩
      · exact ⟨c', z, upd_same⟩
    · obtain ⟨ps', a1, a2, a3⟩ := hT p hp
      refine ⟨ps', by rw [upd_ne (ne_of_none a1 nC), upd_ne hb]; exact a1, a2, fun p' cv hcv => ?_⟩
      obtain ⟨c0, e1, e2⟩ := a3 p' cv hcv
      exact ⟨c0, e1, hE _ _ e2 codeO_ne⟩
  | some cv =>
    obtain ⟨c', e, hco⟩ := ha pos cv hc
    subst e
    refine PySem.W.kdv_makeTailHit (mg := X.mg) (c := c) (P := P) (ps := ps) (closure_ok hfree) I.ok.glob (I.mod.glob.keeps I.bk) hcode (TB.code.keeps I.bk) hP' ht hc bP fun ctv doc h' tk hx hsz => ?_
    exact fin H h' tk c' doc ctv (I.kept fun b o e => hx b o e) (ExtN.refl H) hT hsz hco
end
/-- a lambda's reading as a value -/
def tLamV (T : List (Addr × Str)) (X : Cx) (params : Arguments) (body : Expr) (scope : Scope) (ds : List V) : TE := fun _ H Q =>
  Tabs T H ∧ ∀ (f : Addr) (H1 : Hp), ExtN H H1 → Tabs T H1 → H f = none → LamAt X H1 f params body scope ds → Q (.ref f) H1
/-- captured names and globals; its own parameters are no names of the def -/
structure LamS2 (N : List Str) (sc scope : Scope) : Prop where
  kind : scope.kind = .function
  co : scope.isCoroutine = false
  gen : scope.isGenerator = false
  own : ∀ y ∈ scope.names, y.2 ≠ .cell ∧ (y.2 = .local → y.1 ∉ N)
  free : ∀ y ∈ scope.names, y.2 = .free → sc.names.lookup y.1 = some .cell ∨ sc.names.lookup y.1 = some .free
def lamSB2 (N : List Str) (sc scope : Scope) : Bool :=
  decide (scope.kind = .function) && !scope.isCoroutine && !scope.isGenerator && scope.names.all fun y => !decide (y.2 = .cell) && (!decide (y.2 = .local) || decide (y.1 ∉ N)) && (!decide (y.2 = .free) || decide (sc.names.lookup y.1 = some .cell) || decide (sc.names.lookup y.1 = some .free))
theorem lamS2_by {N : List Str} {sc scope : Scope} (h : lamSB2 N sc scope = true) : LamS2 N sc scope := by
  unfold lamSB2 at h
  simp only [Bool.and_eq_true, Bool.or_eq_true, Bool.not_eq_true', decide_eq_true_eq, decide_eq_false_iff_not, List.all_eq_true] at h
  obtain ⟨⟨⟨h1, h2⟩, h3⟩, h4⟩ := h
  refine ⟨h1, h2, h3, fun y hy => ⟨(h4 y hy).1.1, fun e => ?_⟩, fun y hy e => ?_⟩
  · rcases (h4 y hy).1.2 with z | z
    · exact absurd e z
    · exact z
  · rcases (h4 y hy).2 with (z | z) | z
    · exact absurd e z
    · exact .inl z
    · exact .inr z
theorem LamS2.has {X : Cx} {scope : Scope} (L : LamS2 X.N X.env.scope scope) (hs : ∀ x, (X.env.kindOf x = some .cell ∨ X.env.kindOf x = some .free) → ∃ c, X.env.cells.lookup x = some c) : ∀ y ∈ scope.names, y.2 = .free → ∃ c, X.env.cells.lookup y.1 = some c := fun y hy e => by
  rcases L.free y hy e with k | k
  · exact hs _ (.inl k)
  · exact hs _ (.inr k)
section
variable {X : Cx}
theorem pe_lam0 {T : List (Addr × Str)} {c P : Addr} {params : Arguments} {body : Expr} {scope : Scope} {pos : Pos} (TB : TabB X.base X.mg c P) (hcode : X.env.code = .ref c) (hm : (P, X.env.qual ++ "<lambda>") ∈ T) (hu : ∀ p ∈ T, p.1 = P → p.2 = X.env.qual ++ "<lambda>")
    (L : LamS2 X.N X.env.scope scope) (hdef : defaultsOf params X.env = ([], [])) : PE X (.Lambda params body scope pos) (tLamV T X params body scope []) := by
  refine ⟨fun pins s σ H Q I h => ?_⟩
  obtain ⟨hT, h⟩ := h
  refine PySem.W.kla_eval hdef ?_
  rw [makeFunction_eq]
  simp only [List.zip_nil_right, List.filterMap_nil, List.isEmpty_nil, if_true, pure_bind]
  exact lam_tail I TB hcode hm hu hT (L.has I.ok.has) (.inl ⟨rfl, rfl⟩) fun f H1 s' I1 eN T1 hf la => ⟨.ref f, H1, I1, rfl, h f H1 eN T1 hf la⟩
theorem pe_lam1 {T : List (Addr × Str)} {c P : Addr} {params : Arguments} {body : Expr} {scope : Scope} {pos : Pos} {e : Expr} {d : V} (TB : TabB X.base X.mg c P) (hcode : X.env.code = .ref c) (hm : (P, X.env.qual ++ "<lambda>") ∈ T) (hu : ∀ p ∈ T, p.1 = P → p.2 = X.env.qual ++ "<lambda>")
    (L : LamS2 X.N X.env.scope scope) (hd : params.defaults = [e]) (hk : params.kw_defaults = []) (he : PE X e (tC d)) : PE X (.Lambda params body scope pos) (tLamV T X params body scope [d]) := by
  refine ⟨fun pins s σ H Q I h => ?_⟩
  obtain ⟨hT, h⟩ := h
  refine PySem.W.kdv_lam (by rw [hd]; rfl) hk ?_
  rw [hd]
  refine PySem.W.kdv_all1 (thn (he.run pins s σ H (fun v H1 => v = d ∧ H1 = H) I ⟨rfl, rfl⟩) fun u s1 ⟨v, H1, I1, r1, q1⟩ => PySem.W.kdv_all0 ?_)
  obtain ⟨rfl, rfl⟩ := q1
  rw [makeFunction_eq]
  simp only [List.zip_nil_right, List.filterMap_nil, List.isEmpty_nil, if_true, pure_bind, List.isEmpty_cons, Bool.false_eq_true, if_false]
  refine wpAny_bind (wpAny_newTextTuple ?_)
  have hf1 : H1 s1.heap.objs.size = none := I1.hok.fresh (Nat.le_refl _)
  have sm : Same H1 (upd H1 s1.heap.objs.size (.tup [v])) := sameU hf1
  have I2 : Inv X pins σ (upd H1 s1.heap.objs.size (.tup [v])) { s1 with heap := s1.heap.push { cls := .type "tuple", data := .seq [u].toArray } } :=
    I1.laid (t' := s1.toks) (fun b o e => Heap.get?_push_of_some _ e) (Nat.le_refl _) ⟨by show 1 ≤ sizeLine; decide, [u], .cons r1 .nil, _, Heap.get?_push_size _ rfl, rfl, _, rfl⟩
  refine lam_tail I2 TB hcode hm hu (hT.ext sm) (L.has I.ok.has) (.inr ⟨List.cons_ne_nil _ _, _, rfl, upd_same⟩) fun f H2 s' J eN T2 hf la => ⟨.ref f, H2, J, rfl, h f H2 ((ExtN.of sm).trans eN) T2 ?_ la⟩
  exact sm.free hf
end
/-! ### the names a lambda captures -/
structure CellsAt (X : Cx) (σ : L2.St) (H : Hp) (h : Heap) : Prop where
  inj : ∀ x y c, X.env.cells.lookup x = some c → X.env.cells.lookup y = some c → x = y
  has : ∀ x, (X.env.kindOf x = some .cell ∨ X.env.kindOf x = some .free) → ∃ c, X.env.cells.lookup x = some c
  cell : ∀ x c, X.env.cells.lookup x = some c → (∃ v, h.IsCell c v) ∧ H c = none
  val : ∀ (i : Nat) (x : Str) (v : V), X.N[i]? = some x → σ[i]? = some (some v) → (X.env.scope.names.lookup x = some .cell ∨ X.env.scope.names.lookup x = some .free) → ∃ u c, RelV v u ∧ X.env.cells.lookup x = some c ∧ h.IsCell c (some u)
  len : σ.length = X.N.length
theorem CellsAt.of {X : Cx} {pins : List (Addr × Obj)} {σ : L2.St} {H : Hp} {s : Shared} (I : Inv X pins σ H s) : CellsAt X σ H s.heap := by
  refine ⟨I.ok.inj, I.ok.has, fun x c e => ⟨I.cell x c e, I.freeC x c e⟩, fun i x v e1 e2 k => ?_, I.len⟩
  obtain ⟨m, hn, hl⟩ := I.loc
  obtain ⟨u, r, l⟩ := hl i x v e1 e2 (k.elim (fun z => .inr (.inl z)) fun z => .inr (.inr z))
  rcases l with ⟨k', _⟩ | ⟨_, c, e', z⟩
  · have k' : X.env.scope.names.lookup x = some .local := k'
    rcases k with k | k <;> rw [k] at k' <;> cases k'
  · exact ⟨u, c, r, e', z⟩
theorem CellsAt.un {X : Cx} {σ : L2.St} {H H' : Hp} {h h' : Heap} {fs ex : List Addr} (C : CellsAt X σ H h) (un : Un fs ex H H' h h') (hex : ∀ x c, X.env.cells.lookup x = some c → c ∉ ex) : CellsAt X σ H' h' := by
  have ck : ∀ x c v, X.env.cells.lookup x = some c → h.IsCell c v → h'.IsCell c v := fun x c v e ⟨o, ho, hd⟩ => by
    obtain ⟨sl, q⟩ := un.any ho (C.cell x c e).2 (hex x c e)
    exact ⟨_, q, hd⟩
  refine ⟨C.inj, C.has, fun x c e => ?_, fun i x v e1 e2 k => ?_, C.len⟩
  · obtain ⟨⟨v, z⟩, n⟩ := C.cell x c e
    refine ⟨⟨v, ck x c v e z⟩, ?_⟩
    obtain ⟨o, ho, _⟩ := z
    exact un.free c o ho n (hex x c e)
  · obtain ⟨u, c, r, e, z⟩ := C.val i x v e1 e2 k
    exact ⟨u, c, r, e, ck x c _ e z⟩
section
variable {X : Cx} {σ : L2.St} {HZ : Hp} {s1 : Shared}
theorem lam_start3 {A : Around} {outer : List Env} {E : XK} {scope : Scope} {f c' : Addr} {h₁ : Heap} {tk : Nat} {binds : List (Str × Value)} (C : CellsAt X σ HZ s1.heap) (L : LamS2 X.N X.env.scope scope) (e0 : Env0 X.prog X.w X.K X.mg X.base A outer s1 HZ) (hd : A.handled = none)
    (hns : h₁.Ns s1.heap.objs.size fun y => binds.reverse.lookup y) (kp : ∀ b o, s1.heap.get? b = some o → h₁.get? b = some o) :
    Inv (lamCx X A outer s1 HZ E scope f c') [] σ HZ { s1 with heap := h₁, toks := tk } := by
  have hfree := L.has C.has
  have cm : ∀ {y c}, (cloFrom X.env.cells scope.names []).lookup y = some c → X.env.cells.lookup y = some c := fun {y c} e => by
    rcases cloFrom_mem (PySem.mem_of_lookup e) with hm | ⟨h1, h2⟩
    · cases hm
    · obtain ⟨c1, hc⟩ := hfree _ h1 rfl
      have hc : X.env.cells.lookup y = some c1 := hc
      have e2 : c = c1 := by
        rw [h2, hc] <;> rfl
      rw [e2]
      exact hc
  have look : ∀ {y}, scope.names.lookup y = some .free → ∃ c, (cloFrom X.env.cells scope.names []).lookup y = some c := fun {y} hl => by
    have hy : (y, NameKind.free) ∈ scope.names := PySem.mem_of_lookup hl
    exact mem_lookup (cloFrom_has (cells := X.env.cells) (acc := []) hy)
  have cellK : ∀ {c : Addr} {v : Option Value}, s1.heap.IsCell c v → h₁.IsCell c v := fun {c v} ⟨o, ho, hd⟩ => ⟨_, kp _ _ ho, hd⟩
  have noA : ∀ b : Addr, b ∉ (lamCx X A outer s1 HZ E scope f c').ex := fun b z => absurd (show b ∈ ([] : List Addr) from z) (by simp)
  refine ⟨⟨e0.mod, L.kind, rfl, rfl, Nat.le_refl _, fun y z c e1 e2 => C.inj y z c (cm e1) (cm e2), fun y hy => ?_, fun y c z _ => ?_, fun _ => hd, Around.frames_deeper e0.frames, .inr ⟨rfl, rfl⟩, fun b z => absurd z (noA b), e0.bs, e0.bsz, fun b _ _ => noA b,
      fun b z => absurd z (noA b), e0.funs, e0.frf⟩,
    rfl, e0.bare, Un.kept kp, ⟨_, hns, fun i y v e1 e2 e3 => ?_⟩, fun y c e => ?_, e0.hok.fresh (Nat.le_refl _), fun y c e => ?_, fun q hq => absurd (show q ∈ ([] : List (Addr × Obj)) ++ [] from hq) (by simp), e0.hok.kept kp, C.len⟩
  · have hy : scope.names.lookup y = some .cell ∨ scope.names.lookup y = some .free := hy
    rcases hy with hy | hy
    · exact absurd rfl (L.own _ (PySem.mem_of_lookup hy)).1
    · exact look hy
  · have z : false = true := z
    cases z
  · have e3 : Vis scope y := e3
    rcases e3 with k | k | k
    · exact absurd (List.mem_of_getElem? e1) ((L.own _ (PySem.mem_of_lookup k)).2 rfl)
    · exact absurd rfl (L.own _ (PySem.mem_of_lookup k)).1
    · obtain ⟨w', c1, r, h1, z⟩ := C.val i y v e1 e2 (L.free _ (PySem.mem_of_lookup k) rfl)
      obtain ⟨c2, h2⟩ := look k
      refine ⟨w', r, .inr ⟨.inr k, c2, h2, ?_⟩⟩
      have c3 := cm h2
      rw [h1] at c3
      cases c3
      exact cellK z
  · obtain ⟨⟨w', z⟩, _⟩ := C.cell y c (cm e)
    exact ⟨w', cellK z⟩
  · exact (C.cell y c (cm e)).2
end
/-! ### calling -/
/-- what the call f() binds -/
def LamBnd (params : Arguments) (body : Expr) (scope : Scope) (ds : List V) : Prop :=
  ∀ (q : Str) (cl : List (Str × Addr)) (doc pm cv ctv dV : Value) (s : Shared), ((ds = [] ∧ dV = .none) ∨ (ds ≠ [] ∧ ∃ (T : Addr) (o : Obj) (its : List Value) (n : Nat), dV = .ref T ∧ s.heap.get? T = some o ∧ o.data = .seq its.toArray n ∧ Vals ds its)) →
    ∃ binds, BindsTo s (PySem.W.kdv_fn "<lambda>" q params (.expr body) scope cl dV doc pm cv ctv) ⟨[], []⟩ binds ∧ ∀ y ∈ binds, scope.names.lookup y.1 = some .local
theorem lamB0 {params : Arguments} {body : Expr} {scope : Scope} (h : ∀ (q : Str) (cl : List (Str × Addr)) (doc pm cv ctv : Value), bindArgs (PySem.W.kdv_fn "<lambda>" q params (.expr body) scope cl .none doc pm cv ctv) ⟨[], []⟩ = pure []) : LamBnd params body scope [] := by
  intro q cl doc pm cv ctv dV s hd
  rcases hd with ⟨_, rfl⟩ | ⟨e, _⟩
  · exact ⟨[], .of_eq (h _ _ _ _ _ _), fun y hy => by cases hy⟩
  · exact absurd rfl e
theorem lamB1 {params : Arguments} {body : Expr} {scope : Scope} {a : Str} {d : V} (hl : scope.names.lookup a = some .local)
    (h : ∀ (q : Str) (cl : List (Str × Addr)) (T : Addr) (doc pm cv ctv u : Value), ∃ k, bindArgs (PySem.W.kdv_fn "<lambda>" q params (.expr body) scope cl (.ref T) doc pm cv ctv) ⟨[], []⟩ = seqItems? (.ref T) >>= k ∧ k (some #[u]) = pure [(a, u)]) : LamBnd params body scope [d] := by
  intro q cl doc pm cv ctv dV s hd
  rcases hd with ⟨e, _⟩ | ⟨_, T, o, its, n, rfl, ho, hdd, r⟩
  · cases e
  · obtain ⟨u, rfl, _⟩ := r.one
    obtain ⟨k, h1, h2⟩ := h q cl T doc pm cv ctv u
    refine ⟨[(a, u)], .of_defaults rfl ho hdd h1 h2, fun y hy => ?_⟩
    rcases List.mem_singleton.mp hy with rfl
    exact hl
/-- what is known of a lambda's body -/
structure LamB (X : Cx) (k : Nat) (params : Arguments) (body : Expr) (scope : Scope) (ds : List V) (t : XK → TE) : Prop where
  L : LamS2 X.N X.env.scope scope
  bnd : LamBnd params body scope ds
  pe : ∀ (A : Around) (outer : List Env) (s : Shared) (H : Hp) (E : XK) (f c' : Addr), Room k (A.deeper (lamEnv X scope s.heap.objs.size f c')) → PE (lamCx X A outer s H E scope f c') body (t E)
end Ru

set_option maxHeartbeats 4000000
/-! calls of lambdas that are values: by a def that gets one; a comprehension whose element calls such a def -/
namespace Ru
open PySem PySem.Spec PyProof.Rows L2 LamX
/-- the call of the lambda at f -/
theorem lam_run {X : Cx} {A : Around} {outer : List Env} {s : Shared} {H : Hp} {σ : L2.St} {f : Addr} {params : Arguments} {body : Expr} {scope : Scope} {ds : List V} {t : XK → TE} {k : Nat} {E : XK} {Q : VK}
    (e0 : Env0 X.prog X.w X.K X.mg X.base A outer s H) (C : CellsAt X σ H s.heap) (la : LamAt X H f params body scope ds) (B : LamB X k params body scope ds t) (hr : Room (k + 1) A) (h : t E σ H Q) :
    codeAny (model X.prog X.w) A (.call (.ref f) ⟨[], []⟩) (CR (L2.CX X.prog X.w) outer X.prog X.w H s Q E) s := by
  obtain ⟨c', dV, hf, hc, hd⟩ := la
  obtain ⟨⟨doc, pm, ctv, lam⟩, _, _⟩ := e0.hok f _ hf
  obtain ⟨⟨oc, vs, tc, hoc, hdc, hvc⟩, _, _⟩ := e0.hok c' _ hc
  have lim : s.heap.NoLimit := e0.mod.nolimit.keeps fun b o e => (e0.bs b o e).1
  have hd' : (ds = [] ∧ dV = .none) ∨ (ds ≠ [] ∧ ∃ (T : Addr) (o : Obj) (its : List Value) (n : Nat), dV = .ref T ∧ s.heap.get? T = some o ∧ o.data = .seq its.toArray n ∧ Vals ds its) := by
    rcases hd with z | ⟨z0, T, z1, z2⟩
    · exact .inl z
    · obtain ⟨_, its, r, o, ho, _, n, hn⟩ := e0.hok T _ z2
      exact .inr ⟨z0, T, o, its, n, z1, ho, hn, r⟩
  obtain ⟨binds, hb, hloc⟩ := B.bnd (X.env.qual ++ "<lambda>") (cloFrom X.env.cells scope.names []) doc pm (.ref c') ctv dV s hd'
  refine PySem.W.kla_callFunE hr.depth lam rfl B.L.co B.L.gen rfl ⟨c', oc, vs, tc, rfl, hoc, hdc, hvc⟩ (hb _ _ _ _ ?_)
  refine wpAny_newFunctionEnv (fun y hy => (B.L.own y hy).1) hloc (fun hB nsB sb => ⟨lim.fresh _ sb, ?_⟩) B.L.kind
  show codeAny _ _ (.expr body (lamEnv X scope s.heap.objs.size f c')) _ _
  have kp : ∀ b o, s.heap.get? b = some o → hB.get? b = some o := fun b o e => sb.extBut b o (Nat.ne_of_lt (Heap.lt_size e)) (Heap.get?_push_of_some _ e)
  have J := lam_start3 (f := f) (c' := c') (E := E) (tk := s.toks + binds.length) C B.L e0 hr.hd nsB kp
  refine PySem.W.kla_codeExpr (wpAny_mono ((B.pe _ _ s H E f c' (hr.deeper _)).run [] _ _ H Q J h) (fun v sx hq => ?_) fun e sx hq => hq)
  obtain ⟨vv, Hx, Jx, rv, q⟩ := hq
  exact ⟨vv, Hx, Jx.os, Jx.bare, Jx.base, Jx.hok, rv, q⟩
/-- a() in the def that got f as its first parameter: what the try around takes may rest on the state at the call -/
def tAct2 (f : Addr) (H : Hp) (tl : XK → Hp → VK → Prop) (W : WX) : TE := fun σz Hz Q =>
  σz[0]? = some (some (.ref f)) ∧ Same H Hz ∧ ∃ Ez : XK, (∀ cls d Hy, Ez cls d Hy → W cls d σz Hy) ∧ tl Ez Hz Q
section
variable {X : Cx}
theorem pe_act2 {sg : Scope} {g : Addr} {cdg : Value} {Ng : List Str} {qg a : Str} {s : Shared} {H : Hp} {σ : L2.St} {f : Addr} {params : Arguments} {body : Expr} {scope : Scope} {ds : List V} {k : Nat} {pn : List (Addr × Obj)} {xe : Value → Shared → Prop} {W : WX} {t : XK → TE} {pa pc : Pos}
    (C : CellsAt X σ H s.heap) (la : LamAt X H f params body scope ds) (B : LamB X k params body scope ds t)
    (tk : Takes ((cxOf C8.CX0 X.prog X.w X.K X.mg X.base Ng qg sg g cdg X.A X.stack s H C8.E0).tr pn xe) W) (hr : Room (k + 1) (X.A.deeper (envOfC qg sg s.heap.objs.size g cdg)))
    (hN : Ng[0]? = some a) (hv : Vis sg a) (hd : (a == ("__debug__" : Str)) = false) (hcd : (a == ("__classdict__" : Str)) = false) :
    PE ((cxOf C8.CX0 X.prog X.w X.K X.mg X.base Ng qg sg g cdg X.A X.stack s H C8.E0).tr pn xe) (.Call (.Name a pa) [] [] pc) (tAct2 f H (fun Ez Hz Q => t Ez σ Hz Q) W) := by
  refine ⟨fun pz sz σz Hz Q Iz h => ?_⟩
  obtain ⟨hs, sm, Ez, hW, ht⟩ := h
  refine wpAny_Call_Name_kw (thn ((pe_var (pos := pa) (i := 0) hN hv hd hcd).run pz sz σz Hz (fun v Hy => v = .ref f ∧ Hy = Hz) Iz ⟨.ref f, hs, rfl, rfl⟩) fun u sy ⟨v, Hy, Iy, ry, qy⟩ => ?_)
  obtain ⟨rfl, rfl⟩ := qy
  obtain rfl : u = Value.ref f := ry
  have la' := la.same sm
  obtain ⟨c', dV, hf, hc, hdd⟩ := id la'
  obtain ⟨⟨doc, pm, ctv, lam⟩, _, _⟩ := Iy.hok f _ hf
  refine PySem.W.callWith_F0 ⟨_, _, _, _, lam⟩ ?_
  have un : Un (frs X.stack) [] H Hy s.heap sy.heap := Iy.base
  have run : codeAny (model X.prog X.w) (X.A.deeper (envOfC qg sg s.heap.objs.size g cdg)) (.call (.ref f) ⟨[], []⟩)
      (CR (L2.CX X.prog X.w) (envOfC qg sg s.heap.objs.size g cdg :: X.stack) X.prog X.w Hy sy Q Ez) sy :=
    lam_run (X := X) Iy.env0 (C.un un fun _ _ _ z => nomatch z) la' B hr ht
  refine wpAny_call (codeAny_mono run fun r sx hq => ?_)
  cases r with
  | error e => exact tk e sx (XE.of_call Iy (fun cls d Hx hE => hW cls d Hx hE) hq)
  | ok fl =>
    cases fl with
    | ret u => exact Iy.after hq
    | next => exact False.elim hq
    | brk => exact False.elim hq
    | cont => exact False.elim hq
/-- the def that calls what it got (its first parameter a); TT: what it makes of the lambda's reading -/
def Gives2 (X : Cx) (Ng : List Str) (x : Str) (sg : Scope) (g : Addr) (cdg : Value) (bg : List Stmt) (a : Str) (TT : (XK → Hp → VK → Prop) → Hp → VK → Prop) : Prop :=
  ∀ (f : Addr) (s : Shared) (H : Hp) (Q : VK) (tl : XK → Hp → VK → Prop), Room 9 (X.A.deeper (envOfC x sg s.heap.objs.size g cdg)) →
    (∀ (W : WX) (pn : List (Addr × Obj)) (xe : Value → Shared → Prop) (pa pc : Pos), Takes ((cxOf C8.CX0 X.prog X.w X.K X.mg X.base Ng x sg g cdg X.A X.stack s H C8.E0).tr pn xe) W →
      PE ((cxOf C8.CX0 X.prog X.w X.K X.mg X.base Ng x sg g cdg X.A X.stack s H C8.E0).tr pn xe) (.Call (.Name a pa) [] [] pc) (tAct2 f H tl W)) →
    TT tl H Q →
    ∃ t, PSs (cxOf C8.CX0 X.prog X.w X.K X.mg X.base Ng x sg g cdg X.A X.stack s H C8.E0) bg t ∧ t { nx := fun _ H' => Q .non H', rt := Q } (L2.start Ng [.ref f]) H
/-- such a def, as it stands behind the top -/
structure GiveF (X : Cx) (Ng : List Str) (x : Str) (sg : Scope) (g : Addr) (bg : List Stmt) (a : Str) (TT : (XK → Hp → VK → Prop) → Hp → VK → Prop) : Prop where
  hm : X.mg x = some (.ref g)
  hk : PySem.W.keepIn X.K (.ref g) = true
  ex : ∃ (pg : Arguments) (dV kV doc pm cdv ct oc : Value) (an od : Option Addr) (osl : Array (Option Value)), X.K.lookup g = some ⟨oc, od, .func (PySem.W.fnOf x x pg bg sg dV kV doc pm an cdv ct), osl⟩ ∧ PySem.W.codeIn X.K cdv x = true ∧
    L2.Binds X.K (PySem.W.fnOf x x pg bg sg dV kV doc pm an cdv ct) [a] [] ∧ Gives2 X Ng x sg g cdv bg a TT
  Sg : FnScope Ng [a] sg
  hN : Ng[0]? = some a
  hv : Vis sg a
  hd : (a == ("__debug__" : Str)) = false
  hcd : (a == ("__classdict__" : Str)) = false
theorem give_run {TT : (XK → Hp → VK → Prop) → Hp → VK → Prop} {x a : Str} {g : Addr} {k : Nat} {bg : List Stmt} {sg : Scope} {Ng : List Str} {params : Arguments} {body : Expr} {scope : Scope} {ds : List V} {t : XK → TE} {s : Shared} {H : Hp} {σ : L2.St} {f : Addr} {Q : VK}
    (G : GiveF X Ng x sg g bg a TT) (e0 : Env0 X.prog X.w X.K X.mg X.base X.A X.stack s H) (C : CellsAt X σ H s.heap) (hr : Room (k + 2) X.A) (h9 : 9 ≤ k + 1) (la : LamAt X H f params body scope ds) (B : LamB X k params body scope ds t)
    (h : TT (fun E H' Q' => t E σ H' Q') H Q) : codeAny (model X.prog X.w) X.A (.call (.ref g) ⟨[.ref f], []⟩) (CR C8.CX0 X.stack X.prog X.w H s Q C8.E0) s := by
  obtain ⟨pg, dV, kV, doc, pm, cdv, ct, oc, an, od, osl, lk, hcg, hbi, hG⟩ := G.ex
  have kin : X.K.In s.heap := e0.mod.kin.keeps fun b o e => (e0.bs b o e).1
  refine run_ofS (N := Ng) (ps := [a]) (us := [.ref f]) (vs := [.ref f]) lk hcg G.Sg hr e0 (hbi s [.ref f] kin rfl) (.cons rfl .nil) rfl fun hr' => ?_
  exact hG f s H Q (fun E H' Q' => t E σ H' Q') (hr'.mono h9) (fun W pn xe pa pc tk => pe_act2 C la B tk hr' G.hN G.hv G.hd G.hcd) h
/-- what a call of such a def asks: the value is a lambda of ours -/
def tGive (X : Cx) (k : Nat) (TT : (XK → Hp → VK → Prop) → Hp → VK → Prop) (ta : TA) (τ : L2.St → L2.St) : TE := fun σz H Q =>
  ta σz H fun vs H1 => ∃ (f : Addr) (params : Arguments) (body : Expr) (scope : Scope) (ds : List V) (t : XK → TE), vs = [.ref f] ∧ LamAt X H1 f params body scope ds ∧ LamB X k params body scope ds t ∧ TT (fun E H' Q' => t E (τ σz) H' Q') H1 Q
/-- x(e), e a lambda of the def that runs -/
theorem pe_give2 {TT : (XK → Hp → VK → Prop) → Hp → VK → Prop} {x a : Str} {g : Addr} {k : Nat} {bg : List Stmt} {sg : Scope} {Ng : List Str} {e : Expr} {ta : TA} {p pos : Pos} (G : GiveF X Ng x sg g bg a TT) (hg : Gl X x) (hr : Room (k + 2) X.A) (h9 : 9 ≤ k + 1) (ha : PA X [e] ta)
    (hdb : (x == ("__debug__" : Str)) = false := by decide) (he : starEach [e] X.env = (false, eval e X.env) :: starEach [] X.env := by rfl) (hpl : (backTo pos (starEach [] X.env)).any (·.1) = false := by rfl) :
    PE X (.Call (.Name x p) [e] [] pos) (tGive X k TT ta id) := by
  refine ⟨fun pins s σ H Q I h => ?_⟩
  refine wpAny_Call_Name_kw (ld_glob I hg G.hm ?_ hdb)
  refine PySem.W.callWith_K (h₀ := X.base) I.ok.mod.kin G.hk (thn (ha.run pos pins s σ H _ I h) fun us s1 ⟨vs, H1, I1, r, q⟩ => ⟨I1.kIn, ?_⟩) he hpl
  obtain ⟨f, params, body, scope, ds, t, rfl, la, B, q⟩ := q
  obtain ⟨u, rfl, ru⟩ := r.one
  obtain rfl : u = Value.ref f := ru
  refine wpAny_call (codeAny_mono (give_run G I1.env0 (.of I1) hr h9 la B q) fun r sx hq => ?_)
  cases r with
  | error e => exact (show False from hq).elim
  | ok fl =>
    cases fl with
    | ret u => exact I1.after hq
    | next => exact False.elim hq
    | brk => exact False.elim hq
    | cont => exact False.elim hq
/-- the same in a comprehension's block -/
theorem pe_give2B {TT : (XK → Hp → VK → Prop) → Hp → VK → Prop} {x a : Str} {g : Addr} {k : Nat} {bg : List Stmt} {sg : Scope} {Ng : List Str} {e : Expr} {ta : TA} {p pos : Pos} {pins0 : List (Addr × Obj)} {s0 : Shared} {H0 : Hp} {σ0 : L2.St} {bscope : Scope} {cenv : Env} {fp : List Addr}
    (I0 : Inv X pins0 σ0 H0 s0) (hfp : ∀ b ∈ fp, FpOk X pins0 H0 b) (G : GiveF X Ng x sg g bg a TT) (hg : Gl (X.blk s0 H0 bscope cenv fp) x) (hr : Room (k + 2) X.A) (h9 : 9 ≤ k + 1) (ha : PA (X.blk s0 H0 bscope cenv fp) [e] ta)
    (hdb : (x == ("__debug__" : Str)) = false := by decide) (he : starEach [e] cenv = (false, eval e cenv) :: starEach [] cenv := by rfl) (hpl : (backTo pos (starEach [] cenv)).any (·.1) = false := by rfl) :
    PE (X.blk s0 H0 bscope cenv fp) (.Call (.Name x p) [e] [] pos) (tGive X k TT ta fun _ => σ0) := by
  refine ⟨fun pins s σ H Q I h => ?_⟩
  refine wpAny_Call_Name_kw (ld_glob I hg G.hm ?_ hdb)
  refine PySem.W.callWith_K (h₀ := X.base) I.ok.mod.kin G.hk (thn (ha.run pos pins s σ H _ I h) fun us s1 ⟨vs, H1, I1, r, q⟩ => ⟨I1.kIn, ?_⟩) he hpl
  obtain ⟨f, params, body, scope, ds, t, rfl, la, B, q⟩ := q
  obtain ⟨u, rfl, ru⟩ := r.one
  obtain rfl : u = Value.ref f := ru
  have C : CellsAt X σ0 H1 s1.heap := (CellsAt.of I0).un (show Un (frs X.stack) fp H0 H1 s0.heap s1.heap from I1.base) fun y c e z => (hfp c z).2.2.2.2.1 y c e rfl
  have run : codeAny (model X.prog X.w) X.A (.call (.ref g) ⟨[.ref f], []⟩) (CR C8.CX0 X.stack X.prog X.w H1 s1 Q C8.E0) s1 := give_run (X := X) G I1.env0 C hr h9 la B q
  refine wpAny_call (codeAny_mono run fun r sx hq => ?_)
  cases r with
  | error e => exact (show False from hq).elim
  | ok fl =>
    cases fl with
    | ret u => exact I1.after hq
    | next => exact False.elim hq
    | brk => exact False.elim hq
    | cont => exact False.elim hq
/-- [elt for tg in iter if ..] where elt may rest on the state at the comprehension's start -/
theorem pe_lcI {elt tg iter : Expr} {ifs : List Expr} {scope : Scope} {own : List (Str × Nat)} {pos : Pos} {wi : TI} {g : TG} {tt : TT} {te : L2.St → TE} (hc : X.calm = true) (hN : X.N.Nodup) (hi : PI X tg iter wi) (ok : BlkOk X.N X.env.scope scope own)
    (hg : ∀ (s : Shared) (H : Hp) (C : Addr) (cl : List (Str × Addr)) (fp : List Addr), PG (X.blk s H scope (compEnvC scope cl C X.env) fp) tg g) (ht : ∀ (s : Shared) (H : Hp) (C : Addr) (cl : List (Str × Addr)) (fp : List Addr), PTs (X.blk s H scope (compEnvC scope cl C X.env) fp) ifs tt)
    (he : ∀ (pins : List (Addr × Obj)) (σ : L2.St) (s : Shared) (H : Hp) (C : Addr) (cl : List (Str × Addr)) (fp : List Addr), Inv X pins σ H s → (∀ b ∈ fp, FpOk X pins H b) → PE (X.blk s H scope (compEnvC scope cl C X.env) fp) elt (te σ)) (hs : ∀ x, foldedSetIterable iter X.env x = pure x := by intro _; rfl) :
    PE X (.ListComp elt [⟨tg, iter, ifs, 0⟩] scope pos) (fun σ H Q => tLc wi g tt (te σ) (own.map (·.2)) σ H Q) := by
  refine ⟨fun pins s σ H Q I h => ?_⟩
  rw [eval_ListComp]
  have hfree : ∀ y ∈ scope.names, y.2 = .free → ∃ c, X.env.cells.lookup y.1 = some c := fun y hy e => by
    rcases ok.free y hy e with k | k
    · exact I.ok.has _ (.inl k)
    · exact I.ok.has _ (.inr k)
  refine wpAny_comprehension_free (use := none) rfl hs (closure_ok hfree) ok.kind (fun y hy e => by rw [ok.uniq y hy, e])
    (thn (hi.run pins s σ H _ I h) fun xv s1 hx => thn hx fun itv s2 h2 => ?_)
  obtain ⟨it, fp, tn, J, H2, e, I2, T, st2, f2, q⟩ := h2
  subst e
  refine wpAny_newObj_type (newEnv_comp ?_) (by show 0 ≤ sizeLine; decide)
  generalize hD : s2.heap.objs.size = D
  have hDn : H2 D = none := I2.hok.fresh (Nat.le_of_eq hD)
  obtain ⟨W, ⟨m0, w0⟩, turn⟩ := q D hDn
  generalize hs3 : ({ s2 with heap := s2.heap.push { cls := .type "list", data := .seq ([] : List Value).toArray } } : Shared) = s3
  have I3 : Inv X pins σ (upd H2 D (.lst [])) s3 := by
    rw [← hs3]
    refine I2.laid (t' := s2.toks) (fun b o e => Heap.get?_push_of_some _ e) (Nat.le_of_eq hD) ⟨Nat.zero_le _, [], 0, .nil, ?_⟩
    rw [← hD]
    exact Heap.get?_push_size _ rfl
  have h3 : s3.heap = s2.heap.push { cls := .type "list", data := .seq ([] : List Value).toArray } := by rw [← hs3]
  have sz : ∀ b ∈ fp, b < s2.heap.objs.size := fun b hb => by
    obtain ⟨o, e, _⟩ := T.obj _ _ st2 b hb
    exact Heap.lt_size e
  have f3 : ∀ b ∈ fp, FpOk X pins (upd H2 D (.lst [])) b ∧ b < s3.heap.objs.size := fun b hb => by
    have hlt := sz b hb
    refine ⟨⟨?_, (f2 b hb).2⟩, by rw [h3, Heap.size_push]; exact Nat.lt_succ_of_lt hlt⟩
    rw [upd_ne (by rw [← hD]; exact Nat.ne_of_lt hlt)]
    exact (f2 b hb).1
  have st3 : tn 0 s3.heap := T.keep _ _ _ st2 fun b _ o e => by rw [h3]; exact Heap.get?_push_of_some _ e
  have I4 := block_start I3 ok hN f3
  have pg := hg s3 (upd H2 D (.lst [])) s3.heap.objs.size (cellsFrom (s3.heap.objs.size + 1) scope.names (cloFrom X.env.cells scope.names [])) fp
  have pt := ht s3 (upd H2 D (.lst [])) s3.heap.objs.size (cellsFrom (s3.heap.objs.size + 1) scope.names (cloFrom X.env.cells scope.names [])) fp
  have pe := he pins σ s3 (upd H2 D (.lst [])) s3.heap.objs.size (cellsFrom (s3.heap.objs.size + 1) scope.names (cloFrom X.env.cells scope.names [])) fp I3 fun b hb => (f3 b hb).1
  show codeAny _ _ (.compStart (.ListComp elt [⟨tg, iter, ifs, 0⟩] scope pos) 0 (.ref it) (.ref D) (compEnvC scope (cellsFrom (s3.heap.objs.size + 1) scope.names (cloFrom X.env.cells scope.names [])) s3.heap.objs.size X.env)) (compPost (model X.prog X.w) X.A X.xe none (EP X pins σ Q) (.ref D) s3.heap.objs.size) { s3 with heap := pushCells (s3.heap.push { cls := .type "dict", data := .dict #[] }) scope.names }
  have nfp : ∀ b ∈ fp, (upd H2 D (.lst [])) b = none := fun b hb => (f3 b hb).1.1
  generalize hce : compEnvC scope (cellsFrom (s3.heap.objs.size + 1) scope.names (cloFrom X.env.cells scope.names [])) s3.heap.objs.size X.env = ce at I4 pg pt pe ⊢
  have cL : ce.locals = s3.heap.objs.size := by subst hce; rfl
  generalize hH3 : upd H2 D (.lst []) = H3 at I3 I4 pg pt pe w0 nfp f3
  generalize hs4 : ({ s3 with heap := pushCells (s3.heap.push { cls := .type "dict", data := .dict #[] }) scope.names } : Shared) = s4 at I4 ⊢
  have st4 : tn 0 s4.heap := T.keep _ _ _ st3 fun b _ o e => by rw [← hs4]; exact pushCells_keeps _ _ _ _ (Heap.get?_push_of_some _ e)
  have stat : ∀ {σ' : L2.St} {H' : Hp} {s' : Shared}, Inv (X.blk s3 H3 scope ce fp) [] σ' H' s' → (∀ b ∈ fp, H' b = none) → ∀ b ∈ fp, FpOk (X.blk s3 H3 scope ce fp) [] H' b := fun {σ' H' s'} I' hn b hb =>
    ⟨hn b hb, (I'.ok.exf b hb).1, I'.ok.exfs b hb, .inl hb, fun x c e => (I'.ok.exf b hb).2 x c e, fun p hp => absurd (show p ∈ ([] : List (Addr × Obj)) ++ [] from hp) (by simp)⟩
  have loop : codeAny (model X.prog X.w) X.A (.compLoop (.ListComp elt [⟨tg, iter, ifs, 0⟩] scope pos) 0 (.ref it) (.ref D) ce) (compPost (model X.prog X.w) X.A X.xe none (EP X pins σ Q) (.ref D) s3.heap.objs.size) s4 := by
    refine compLoop_any (fun n s' => ∃ i H', Inv (X.blk s3 H3 scope ce fp) [] (wipe σ (own.map (·.2))) H' s' ∧ tn i s'.heap ∧ (∀ b ∈ fp, H' b = none) ∧ W i n H') ?_ m0 ⟨0, H3, I4, st4, nfp, w0⟩
    rintro n s5 ⟨i, H5, I5, st5, n5, w5⟩
    rcases turn i n H5 w5 with ⟨stop, qq⟩ | ⟨go, Nx, hNx, step⟩
    · have td := T.done (X.blk s3 H3 scope ce fp) rfl rfl rfl hc i [] s5 _ H5 (fun _ _ => False) I5 (stat I5 n5) st5 stop
      refine thnF td fun r s6 ⟨hr, I6⟩ => ?_
      subst hr
      have I7 : Inv X pins σ H5 s6 := I3.call' (ch := fp) I6.os I6.base I6.hok I6.bare fun b hb => ⟨(f3 b hb).1.2.2.2.1, (f3 b hb).1.2.1, (f3 b hb).1.2.2.2.2.1, (f3 b hb).1.2.2.2.2.2⟩
      have nC : H5 s3.heap.objs.size = none := by
        have z : H5 ce.locals = none := I6.free
        rw [cL] at z
        exact z
      obtain ⟨m, hn, _⟩ := I6.loc
      have hn : s6.heap.Ns ce.locals m := hn
      rw [cL] at hn
      refine ⟨m, hn, fun h'' sb => ?_⟩
      obtain ⟨f0, f1, f2, f3, f4, f5⟩ := I3.fpOk (Nat.le_refl _) nC
      exact ⟨.ref D, H5, I7.turned (t' := s6.toks) (fun b o hb e => (sb.2 b hb).trans e) f0 f1 f3 f4 f5, rfl, qq⟩
    · have ti := T.item (X.blk s3 H3 scope ce fp) rfl rfl rfl hc i [] s5 _ H5 (fun _ _ => False) I5 (stat I5 n5) st5 go
      refine thnF ti fun r s6 ⟨u, hr, h6⟩ => ?_
      subst hr
      refine thnF h6 fun _ s7 ⟨x, H7, I7, r7, y7, st7, n7⟩ => ?_
      have I7' := I7.pinned (stat I7 n7) (T.obj _ _ st7)
      refine thnF (pg.run _ s7 _ H7 x u _ I7' r7 (step x H7 y7)) fun _ s8 ⟨σ8, H8, I8, hw8, q8⟩ => ?_
      refine thnF (pt.run _ s8 σ8 H8 _ I8 q8) fun b s9 ⟨H9, I9, q9⟩ => ?_
      have fin : ∀ {s' : Shared} {H' : Hp}, Inv (X.blk s3 H3 scope ce fp) ([] ++ pinsAt fp s7.heap) σ8 H' s' → Nx H' → ∃ m, m < n ∧ ∃ i H', Inv (X.blk s3 H3 scope ce fp) [] (wipe σ (own.map (·.2))) H' s' ∧ tn i s'.heap ∧ (∀ b ∈ fp, H' b = none) ∧ W i m H' := fun {s' H'} I' nx => by
        obtain ⟨m', hm, w'⟩ := hNx H' nx
        have pin' : ∀ b ∈ fp, ∀ o, s7.heap.get? b = some o → s'.heap.get? b = some o ∧ H' b = none := fun b hb o e =>
          let z := I'.pin (b, o) (List.mem_append_right _ (List.mem_append_right _ (mem_pinsAt hb e)))
          ⟨z.1, z.2.1⟩
        have hl : (wipe σ (own.map (·.2))).length = σ8.length := by rw [← hw8, wipe_length]
        refine ⟨m', hm, i + 1, H', (I'.unpinned (pins := [])).weak hl (fun j v e => ?_), T.keep _ _ _ st7 fun b hb o e => (pin' b hb o e).1, fun b hb => ?_, w'⟩
        · rw [← hw8] at e
          exact (wipe_some e).1
        · obtain ⟨o, e, _⟩ := T.obj _ _ st7 b hb
          exact (pin' b hb o e).2
      cases b with
      | false =>
        simp only [Bool.false_eq_true, if_false] at q9 ⊢
        exact fin I9 q9
      | true =>
        simp only [if_true] at q9 ⊢
        refine thnF (pe.run _ s9 σ8 H9 _ I9 q9) fun z s10 ⟨yv, H10, I10, r10, acc, hD10, hz10, nx⟩ => ?_
        exact app_ok (X := X.blk s3 H3 scope ce fp) I10 hD10 hz10 r10 fun s11 I11 => fin I11 nx
  exact codeAny_compStart_list loop (T.self X.A 0 _ _ _ st4 loop)
end
end Ru

set_option maxHeartbeats 4000000
/-! a row of lambdas, each told by a def: [f(c) for c in works]; lists of tuples compared -/
namespace Ru
open PySem PySem.Spec PyProof.Rows L2 LamX
section
variable {X : Cx} {k i j : Nat} {TT : (XK → Hp → VK → Prop) → Hp → VK → Prop} {σ : L2.St} {H H0 H1 : Hp} {f : Addr} {xs : List V} {Q : VK}
/-- the lambda at f, told: a tuple of xs -/
def Work (X : Cx) (k : Nat) (TT : (XK → Hp → VK → Prop) → Hp → VK → Prop) (σ : L2.St) (H0 : Hp) (f : Addr) (xs : List V) : Prop :=
  ∃ (params : Arguments) (body : Expr) (scope : Scope) (ds : List V) (t : XK → TE), LamAt X H0 f params body scope ds ∧ LamB X k params body scope ds t ∧
    ∀ (H' : Hp) (Q : VK), Same H0 H' → (∀ p H'', Same H' H'' → H'' p = some (.tup xs) → Q (.ref p) H'') → TT (fun E H' Q' => t E σ H' Q') H' Q
theorem Work.same (w : Work X k TT σ H0 f xs) (s : Same H0 H1) : Work X k TT σ H1 f xs := by
  obtain ⟨pa, bo, sc, ds, t, la, lb, go⟩ := w
  exact ⟨pa, bo, sc, ds, t, la.same s, lb, fun H' Q s' => go H' Q (s.trans s')⟩
/-- a list of tuples -/
def DL (H : Hp) (D : Addr) (rs : List (List V)) : Prop := ∃ ps : List Addr, H D = some (.lst (ps.map V.ref)) ∧ ps.length = rs.length ∧ ∀ (m : Nat) (p : Addr) (r : List V), ps[m]? = some p → rs[m]? = some r → H p = some (.tup r)
theorem DL.same {D : Addr} {rs : List (List V)} (h : DL H D rs) (s : Same H H1) : DL H1 D rs := by
  obtain ⟨ps, h1, h2, h3⟩ := h
  exact ⟨ps, s _ _ h1, h2, fun m p r a b => s _ _ (h3 m p r a b)⟩
theorem lc_works {K : PySem.W.Frag} {vs : List Nat} {a : Addr} {fs : List Addr} {rs : List (List V)} (hv : vs = [i]) (hj : σ[j]? = some (some (.ref a))) (hi : i < σ.length) (hl : SqL K H a (fs.map V.ref)) (ln : fs.length = rs.length) (l1 : fs.length ≤ 1000)
    (wk : ∀ (m : Nat) (f : Addr) (r : List V), fs[m]? = some f → rs[m]? = some r → Work X k TT σ H f r) (go : ∀ D H', Same H H' → DL H' D rs → Q (.ref D) H') :
    tLc (iList K (tVar j)) (gName i) tYes (tGive X k TT (tCons (tVar i) tNil) fun _ => σ) vs σ H Q := by
  subst hv
  refine ⟨_, hj, a, rfl, ⟨_, hl⟩, fun D hD => lc_list (K := K) (a := a) (xs := fs.map V.ref)
    (fun m H' => (∀ b o, b ≠ D → H b = some o → H' b = some o) ∧ ∃ ps : List Addr, H' D = some (.lst (ps.map V.ref)) ∧ ps.length = m ∧ m ≤ fs.length ∧ ∀ (n : Nat) (p : Addr) (r : List V), ps[n]? = some p → rs[n]? = some r → H' p = some (.tup r)) ?_ ?_ ?_ ?_⟩
  · exact ⟨fun b o n e => by rw [upd_ne n]; exact e, [], by rw [upd_same]; rfl, rfl, Nat.zero_le _, fun n p r e => by simp at e⟩
  · rintro m H' hm ⟨fr, _⟩
    exact Same.seq (fun b o e => fr b o (ne_of_none e hD) e) hl
  · rintro m x H' hx ⟨fr, ps, hD', lp, lm, hp⟩
    have sm : Same H H' := fun b o e => fr b o (ne_of_none e hD) e
    have hm : m < fs.length := by
      have := (List.getElem?_eq_some_iff.mp hx).1
      rw [List.length_map] at this
      exact this
    have ef : fs[m]? = some fs[m] := List.getElem?_eq_getElem hm
    have er : rs[m]? = some (rs[m]'(by omega)) := List.getElem?_eq_getElem (by omega)
    rw [List.getElem?_map, ef] at hx
    cases hx
    obtain ⟨pa, bo, sc, ds, t, la, lb, w⟩ := wk m _ _ ef er
    have hw : (wipe σ [i]).length = σ.length := wipe_length σ [i]
    refine ⟨?_, ?_⟩
    · show ((wipe σ []).set i none |>.set i (some (V.ref fs[m]))).set i none = (wipe σ []).set i none
      rw [List.set_set, List.set_set]
    show tGive X k TT (tCons (tVar i) tNil) (fun _ => σ) ((wipe σ [i]).set i (some (V.ref fs[m]))) H' _
    refine ⟨_, List.getElem?_set_self (by rw [hw]; exact hi), _, pa, bo, sc, ds, t, rfl, la.same sm, lb, ?_⟩
    refine w H' _ sm fun p H'' s'' hp'' => ?_
    have hD'' := s'' _ _ hD'
    refine ⟨_, hD'', by rw [List.length_map, lp]; exact Nat.lt_of_lt_of_le hm (Nat.le_trans l1 (by decide)), fun b o n e => by rw [upd_ne n]; exact s'' _ _ (fr b o n e), ps ++ [p], by rw [upd_same, List.map_append]; rfl, by rw [List.length_append, lp]; rfl, hm, fun n q r e1 e2 => ?_⟩
    have npD : ∀ {q : Addr} {r : List V}, H'' q = some (.tup r) → q ≠ D := fun {q r} e => ne_of e hD'' (fun z => nomatch z)
    by_cases hn : n < ps.length
    · rw [List.getElem?_append_left hn] at e1
      have := s'' _ _ (hp n q r e1 e2)
      rw [upd_ne (npD this)]
      exact this
    · rw [List.getElem?_append_right (by omega)] at e1
      have h0 : n - ps.length = 0 := by
        cases hh : n - ps.length with
        | zero => rfl
        | succ z => rw [hh] at e1; simp at e1
      rw [h0] at e1
      cases e1
      have : n = m := by omega
      subst this
      rw [er] at e2
      cases e2
      rw [upd_ne (npD hp'')]
      exact hp''
  · rintro H' ⟨fr, ps, hD', lp, _, hp⟩
    rw [List.length_map] at lp
    exact go D H' (fun b o e => fr b o (ne_of_none e hD) e) ⟨ps, hD', by rw [lp, ln], hp⟩
end
/-! ### promises put together -/
theorem fnUp {P : Program} {w : World} {K : PySem.W.Frag} {mg : Str → Option Value} {base : Heap} {k : Nat} {f : Addr} {fd : FuncData} {ps : List Str} {sp : Sp} (F : FnOk P w K mg base C8.CX0 k f fd ps sp) : FnOk P w K mg base (L2.CX P w) k f fd ps sp :=
  ⟨F.len, fun A outer s H args us vs Q E hr he hb hv hs => codeAny_mono (F.run A outer s H args us vs Q E hr he hb hv hs) fun r s' h => by
    cases r with
    | error e => exact (show False from h).elim
    | ok fl => cases fl <;> exact h⟩
theorem fnOr {P : Program} {w : World} {K : PySem.W.Frag} {mg : Str → Option Value} {base : Heap} {CX : CXT} {k : Nat} {f : Addr} {fd : FuncData} {ps : List Str} {sp sp' : Sp} (F : FnOk P w K mg base CX k f fd ps sp) (G : FnOk P w K mg base CX k f fd ps sp') :
    FnOk P w K mg base CX k f fd ps (fun vs H Q E => sp vs H Q E ∨ sp' vs H Q E) :=
  ⟨fun vs H Q E q => q.elim (F.len vs H Q E) (G.len vs H Q E), fun A outer s H args us vs Q E hr he hb hv hs => hs.elim (F.run A outer s H args us vs Q E hr he hb hv) (G.run A outer s H args us vs Q E hr he hb hv)⟩
/-! ### the comparison of such lists -/
def pdV : V → PyData
  | .str z => .str z
  | .int n => .int n
  | .bl b => .bool b
  | _ => .none
def okV : V → Bool
  | .str _ => true
  | .int _ => true
  | .bl _ => true
  | .non => true
  | _ => false
def pdL (rs : List (List V)) : PyData := .list (rs.map fun r => .tuple (r.map pdV))
section
variable {K : PySem.W.Frag} {H : Hp} {D D2 : Addr} {rs rt : List (List V)} {Q : VK}
theorem dp_flat : ∀ {r : List V}, r.all okV = true → DpAll K H r (r.map pdV)
  | [], _ => .nil
  | v :: r, h => by
    simp only [List.all_cons, Bool.and_eq_true] at h
    refine .cons ?_ (dp_flat h.2)
    cases v <;> first | exact .str _ | exact .int _ | exact .bl _ | exact .non | exact absurd (show false = true from h.1) Bool.false_ne_true
theorem dp_tups : ∀ {ps : List Addr} {rs : List (List V)}, ps.length = rs.length → (∀ (m : Nat) (p : Addr) (r : List V), ps[m]? = some p → rs[m]? = some r → H p = some (.tup r)) → (rs.all fun r => r.all okV) = true → DpAll K H (ps.map V.ref) (rs.map fun r => .tuple (r.map pdV))
  | [], [], _, _, _ => .nil
  | [], _ :: _, e, _, _ => by cases e
  | _ :: _, [], e, _, _ => by cases e
  | p :: ps, r :: rs, e, h, o => by
    simp only [List.all_cons, Bool.and_eq_true] at o
    exact .cons (.tup (SqT.of (h 0 p r rfl rfl)) (dp_flat o.1)) (dp_tups (Nat.succ.inj e) (fun m p' r' a b => h (m + 1) p' r' a b) o.2)
theorem DL.dp (h : DL H D rs) (o : (rs.all fun r => r.all okV) = true) : Dp K H (.ref D) (pdL rs) := by
  obtain ⟨ps, h1, h2, h3⟩ := h
  exact .lst (SqL.of h1) (dp_tups h2 h3 o)
theorem neD_DL (h : DL H D rs) (h2 : DL H D2 rt) (o : (rs.all fun r => r.all okV) = true) (o2 : (rt.all fun r => r.all okV) = true) (sh : SeqAt.shaped (pdL rs) = true) (sh2 : SeqAt.shaped (pdL rt) = true) (q : Q (.bl (!PyData.eqv (pdL rs) (pdL rt))) H) : rNeD K (.ref D) (.ref D2) H Q :=
  ⟨_, _, h.dp o, h2.dp o2, sh, sh2, q⟩
theorem eqD_DL (h : DL H D rs) (h2 : DL H D2 rt) (o : (rs.all fun r => r.all okV) = true) (o2 : (rt.all fun r => r.all okV) = true) (sh : SeqAt.shaped (pdL rs) = true) (sh2 : SeqAt.shaped (pdL rt) = true) (q : Q (.bl (PyData.eqv (pdL rs) (pdL rt))) H) : rEqD K (.ref D) (.ref D2) H Q :=
  ⟨_, _, h.dp o, h2.dp o2, sh, sh2, q⟩
end
end Ru
namespace Ru
open PySem PySem.Spec PyProof.Rows L2 LamX
def pdT (r : List V) : PyData := .tuple (r.map pdV)
theorem neD_tup {K : PySem.W.Frag} {H : Hp} {p q : Addr} {r t : List V} {Q : VK} (hp : H p = some (.tup r)) (hq : H q = some (.tup t)) (o : r.all okV = true) (o2 : t.all okV = true) (sh : SeqAt.shaped (pdT r) = true) (sh2 : SeqAt.shaped (pdT t) = true) (k : Q (.bl (!PyData.eqv (pdT r) (pdT t))) H) : rNeD K (.ref p) (.ref q) H Q :=
  ⟨_, _, .tup (SqT.of hp) (dp_flat o), .tup (SqT.of hq) (dp_flat o2), sh, sh2, k⟩
theorem give_work {X : Cx} {k : Nat} {TT : (XK → Hp → VK → Prop) → Hp → VK → Prop} {σ : L2.St} {H : Hp} {f : Addr} {xs : List V} {Q : VK} (w : Work X k TT σ H f xs) (go : ∀ p H'', Same H H'' → H'' p = some (.tup xs) → Q (.ref p) H'') :
    ∃ (f' : Addr) (params : Arguments) (body : Expr) (scope : Scope) (ds : List V) (t : XK → TE), [V.ref f] = [.ref f'] ∧ LamAt X H f' params body scope ds ∧ LamB X k params body scope ds t ∧ TT (fun E H' Q' => t E σ H' Q') H Q := by
  obtain ⟨pa, bo, sc, ds, t, la, lb, w⟩ := w
  exact ⟨f, pa, bo, sc, ds, t, rfl, la, lb, w H Q (Same.refl _) go⟩
end Ru
/-! ### a list of lambdas that grows -/
namespace Ru
open PySem PySem.Spec PyProof.Rows L2 LamX
/-- all but the lists stay -/
def ExtL (H H' : Hp) : Prop := ∀ b o, H b = some o → (∀ xs, o ≠ .lst xs) → H' b = some o
structure Lm where
  f : Addr
  pa : Arguments
  bo : Expr
  sc : Scope
  ds : List V
section
variable {X : Cx} {T : List (Addr × Str)} {H H' H0 : Hp} {W : Addr} {ls : List Lm}
theorem LamAt.extL {f : Addr} {params : Arguments} {body : Expr} {scope : Scope} {ds : List V} (h : LamAt X H f params body scope ds) (e : ExtL H H') : LamAt X H' f params body scope ds := by
  obtain ⟨c', dV, h1, h2, h3⟩ := h
  refine ⟨c', dV, e _ _ h1 (fun xs z => by unfold LamO at z; cases z), e _ _ h2 (fun xs z => by unfold CodeO at z; cases z), ?_⟩
  rcases h3 with h3 | ⟨h0, T, h3, h4⟩
  · exact .inl h3
  · exact .inr ⟨h0, T, h3, e _ _ h4 fun ps z => nomatch z⟩
theorem tabs_extL (t : Tabs T H) (e : ExtL H H') : Tabs T H' := fun p hp => by
  obtain ⟨ps, h1, h2, h3⟩ := t p hp
  refine ⟨ps, e _ _ h1 (fun _ z => nomatch z), h2, fun pos cv hc => ?_⟩
  obtain ⟨c, e1, e2⟩ := h3 pos cv hc
  exact ⟨c, e1, e _ _ e2 (fun xs z => by unfold CodeO at z; cases z)⟩
theorem extL_upd {xs : List V} {o : HO} (hW : H W = some (.lst xs)) : ExtL H (upd H W o) := fun b u e n => by
  rw [upd_ne fun z => by rw [z, hW] at e; exact n _ (Option.some.inj e).symm]; exact e
/-- the list at W holds the lambdas ls; what stood at the start (H0) stands -/
structure WS (X : Cx) (T : List (Addr × Str)) (H0 H : Hp) (W : Addr) (ls : List Lm) : Prop where
  ext : ExtN H0 H
  off : ∀ b u, H0 b = some u → (∀ ps, u ≠ .tbl ps) → b ≠ W
  tab : Tabs T H
  at_ : H W = some (.lst (ls.map fun l => V.ref l.f))
  lam : ∀ l ∈ ls, LamAt X H l.f l.pa l.bo l.sc l.ds
theorem WS.start (e : ExtN H0 H) (t : Tabs T H) (hl : ∀ l ∈ ls, LamAt X H l.f l.pa l.bo l.sc l.ds) (hW : H W = none) : WS X T H0 (upd H W (.lst (ls.map fun l => V.ref l.f))) W ls where
  ext := e.trans (ExtN.of (sameU hW))
  off := fun b u h n => ne_of_none (e b u h n) hW
  tab := t.ext (sameU hW)
  at_ := upd_same
  lam := fun l h => (hl l h).same (sameU hW)
theorem WS.more {ms : List Lm} (w : WS X T H0 H W ls) (e : ExtN H H') (t : Tabs T H') (hl : ∀ l ∈ ms, LamAt X H' l.f l.pa l.bo l.sc l.ds) : WS X T H0 (upd H' W (.lst ((ls ++ ms).map fun l => V.ref l.f))) W (ls ++ ms) := by
  have hW := e _ _ w.at_ (fun _ z => nomatch z)
  have x := extL_upd (o := .lst ((ls ++ ms).map fun l => V.ref l.f)) hW
  refine ⟨fun b u h n => ?_, w.off, tabs_extL t x, upd_same, fun l h => ?_⟩
  · rw [upd_ne (w.off b u h n)]
    exact e _ _ (w.ext b u h n) n
  · rcases List.mem_append.mp h with h | h
    · exact ((w.lam l h).ext e).extL x
    · exact (hl l h).extL x
theorem WS.same {ms : List Lm} (w : WS X T H0 H W ls) (s : Same H H') : WS X T H0 H' W ls := ⟨w.ext.trans (ExtN.of s), w.off, w.tab.ext s, s _ _ w.at_, fun l h => (w.lam l h).same s⟩
theorem WS.get (w : WS X T H0 H W ls) (n : Nat) {f : Addr} {pa : Arguments} {bo : Expr} {sc : Scope} {ds : List V} (h : ls[n]? = some ⟨f, pa, bo, sc, ds⟩) : LamAt X H f pa bo sc ds := w.lam _ (List.mem_of_getElem? h)
variable {K : PySem.W.Frag} {j : Nat} {σ : L2.St} {D : Ends}
theorem ws_one {pa : Arguments} {bo : Expr} {sc : Scope} {ds : List V} {Q : VK} (t : Tabs T H0) (k : ∀ W H f, WS X T H0 H W [⟨f, pa, bo, sc, ds⟩] → Q (.ref W) H) : tLst (tCons (tLamV T X pa bo sc ds) tNil) σ H0 Q :=
  ⟨t, fun f H1 e1 t1 _ la => ⟨by show 1 ≤ sizeLine; decide, fun W nW => k W _ f (.start (ls := [⟨f, pa, bo, sc, ds⟩]) e1 t1 (fun l h => by rcases List.mem_singleton.mp h with rfl; exact la) nW)⟩⟩
theorem ws_two {pa pa2 : Arguments} {bo bo2 : Expr} {sc sc2 : Scope} {ds ds2 : List V} {Q : VK} (t : Tabs T H0) (k : ∀ W H f f2, WS X T H0 H W [⟨f, pa, bo, sc, ds⟩, ⟨f2, pa2, bo2, sc2, ds2⟩] → Q (.ref W) H) : tLst (tCons (tLamV T X pa bo sc ds) (tCons (tLamV T X pa2 bo2 sc2 ds2) tNil)) σ H0 Q :=
  ⟨t, fun f H1 e1 t1 _ la => ⟨t1, fun f2 H2 e2 t2 _ la2 => ⟨by show 2 ≤ sizeLine; decide, fun W nW => k W _ f f2 (.start (ls := [⟨f, pa, bo, sc, ds⟩, ⟨f2, pa2, bo2, sc2, ds2⟩]) (e1.trans e2) t2 (fun l h => by
    rcases List.mem_cons.mp h with rfl | h
    · exact la.ext e2
    · rcases List.mem_singleton.mp h with rfl; exact la2) nW)⟩⟩⟩
theorem ws_three {pa pa2 pa3 : Arguments} {bo bo2 bo3 : Expr} {sc sc2 sc3 : Scope} {ds ds2 ds3 : List V} {Q : VK} (t : Tabs T H0) (k : ∀ W H f f2 f3, WS X T H0 H W [⟨f, pa, bo, sc, ds⟩, ⟨f2, pa2, bo2, sc2, ds2⟩, ⟨f3, pa3, bo3, sc3, ds3⟩] → Q (.ref W) H) : tLst (tCons (tLamV T X pa bo sc ds) (tCons (tLamV T X pa2 bo2 sc2 ds2) (tCons (tLamV T X pa3 bo3 sc3 ds3) tNil))) σ H0 Q :=
  ⟨t, fun f H1 e1 t1 _ la => ⟨t1, fun f2 H2 e2 t2 _ la2 => ⟨t2, fun f3 H3 e3 t3 _ la3 => ⟨by show 3 ≤ sizeLine; decide, fun W nW => k W _ f f2 f3 (.start (ls := [⟨f, pa, bo, sc, ds⟩, ⟨f2, pa2, bo2, sc2, ds2⟩, ⟨f3, pa3, bo3, sc3, ds3⟩]) ((e1.trans e2).trans e3) t3 (fun l h => by
    rcases List.mem_cons.mp h with rfl | h
    · exact la.ext (e2.trans e3)
    · rcases List.mem_cons.mp h with rfl | h
      · exact la2.ext e3
      · rcases List.mem_singleton.mp h with rfl; exact la3) nW)⟩⟩⟩⟩
theorem ws_append {pa : Arguments} {bo : Expr} {sc : Scope} {ds : List V} (w : WS X T H0 H W ls) (hj : σ[j]? = some (some (.ref W))) (hz : ls.length ≤ 1000) (k : ∀ H' f, WS X T H0 H' W (ls ++ [⟨f, pa, bo, sc, ds⟩]) → D.nx σ H') : tDrop (tBM K "list" rAppend (tVar j) (tCons (tLamV T X pa bo sc ds) tNil)) D σ H :=
  ⟨_, hj, .inl ⟨rfl, _, SqL.of w.at_⟩, w.tab, fun f H1 e1 t1 _ la => ⟨W, _, _, rfl, rfl, e1 _ _ w.at_ (fun _ z => nomatch z), by rw [List.length_map]; exact Nat.lt_of_le_of_lt hz (by decide), by
    have h := w.more (ms := [⟨f, pa, bo, sc, ds⟩]) e1 t1 (fun l h => by rcases List.mem_singleton.mp h with rfl; exact la)
    rw [List.map_append] at h
    exact k _ f h⟩⟩
theorem ws_extend2 {pa pa2 : Arguments} {bo bo2 : Expr} {sc sc2 : Scope} {ds ds2 : List V} (w : WS X T H0 H W ls) (hj : σ[j]? = some (some (.ref W))) (hz : ls.length ≤ 1000) (k : ∀ H' f f2, WS X T H0 H' W (ls ++ [⟨f, pa, bo, sc, ds⟩, ⟨f2, pa2, bo2, sc2, ds2⟩]) → D.nx σ H') :
    tDrop (tBM K "list" rExtend (tVar j) (tCons (tLst (tCons (tLamV T X pa bo sc ds) (tCons (tLamV T X pa2 bo2 sc2 ds2) tNil))) tNil)) D σ H :=
  ⟨_, hj, .inl ⟨rfl, _, SqL.of w.at_⟩, w.tab, fun f H1 e1 t1 _ la => ⟨t1, fun f2 H2 e2 t2 _ la2 => ⟨by show 2 ≤ sizeLine; decide, fun m nm => by
    have hW := e2 _ _ (e1 _ _ w.at_ (fun _ z => nomatch z)) (fun _ z => nomatch z)
    have s := sameU (o := .lst [V.ref f, V.ref f2]) nm
    refine ⟨W, m, _, _, rfl, rfl, s _ _ hW, upd_same, by rw [List.length_map]; show ls.length + 2 ≤ sizeLine; exact Nat.le_trans (Nat.add_le_add_right hz 2) (by decide), ?_⟩
    have h := w.more (ms := [⟨f, pa, bo, sc, ds⟩, ⟨f2, pa2, bo2, sc2, ds2⟩]) ((e1.trans e2).trans (ExtN.of s)) (t2.ext s) (fun l h => by
      rcases List.mem_cons.mp h with rfl | h
      · exact (la.ext e2).same s
      · rcases List.mem_singleton.mp h with rfl; exact la2.same s)
    rw [List.map_append] at h
    exact k _ f f2 h⟩⟩⟩
end
end Ru

namespace W6
open PySem PySem.Spec PyProof.Rows L2 Ru StX
/-- whether the heater was on before a tick -/
def was (p : Th.Par) : Nat → Bool
  | 0 => p.on0
  | t + 1 => Th.onn p t
theorem onn_was (p : Th.Par) (t : Nat) : Th.onn p t = Th.hst (Th.deg p t) p.lo p.hi (was p t) := by
  cases t <;> rfl
def Mv (p : Th.Par) (t : Nat) : Bool := !decide (was p t = was p (t + 1))
def mvs (p : Th.Par) (n : Nat) : List Nat := (List.range n).filter (Mv p)
structure Rg where
  l0 : Int
  l1 : Int
  h0 : Int
  h1 : Int
def rgS (b c : Bool) (d : Int) (r : Rg) : Rg := match b, c with
  | true, true => { r with h0 := mxv r.h0 d }
  | true, false => { r with h1 := mnv r.h1 (d - 1) }
  | false, true => { r with l0 := mxv r.l0 (d + 1) }
  | false, false => { r with l1 := mnv r.l1 d }
def rg (p : Th.Par) : Nat → Rg
  | 0 => ⟨-1000000000000, 1000000000000, -1000000000000, 1000000000000⟩
  | t + 1 => rgS (was p t) (Th.onn p t) (Th.deg p t) (rg p t)
/-- other thresholds agree with the first ticks -/
def Fit (p : Th.Par) (T : Nat) (lo hi : Int) : Prop := ∀ t, t < T → Th.onn p t = Th.hst (Th.deg p t) lo hi (was p t)
def InR (r : Rg) (lo hi : Int) : Prop := r.l0 ≤ lo ∧ lo ≤ r.l1 ∧ r.h0 ≤ hi ∧ hi ≤ r.h1
theorem le_mxv {i j k : Int} : mxv i j ≤ k ↔ i ≤ k ∧ j ≤ k := by unfold mxv; split <;> omega
theorem mnv_le {i j k : Int} : k ≤ mnv i j ↔ k ≤ i ∧ k ≤ j := by unfold mnv; split <;> omega
theorem inS {b c : Bool} {d lo hi : Int} {r : Rg} (h : lo ≤ hi) : InR (rgS b c d r) lo hi ↔ InR r lo hi ∧ c = Th.hst d lo hi b := by
  unfold InR rgS Th.hst
  cases b <;> cases c <;> simp only [le_mxv, mnv_le] <;> split <;> (try split) <;> simp <;> omega
theorem fit_rg {p : Th.Par} {lo hi : Int} (h : lo ≤ hi) (a0 : -1000000000000 ≤ lo) (a1 : lo ≤ 1000000000000) (b0 : -1000000000000 ≤ hi) (b1 : hi ≤ 1000000000000) : ∀ T : Nat, Fit p T lo hi ↔ InR (rg p T) lo hi
  | 0 => ⟨fun _ => ⟨a0, a1, b0, b1⟩, fun _ t ht => absurd ht (Nat.not_lt_zero t)⟩
  | T + 1 => by
    show _ ↔ InR (rgS _ _ _ _) lo hi
    rw [inS h, ← fit_rg h a0 a1 b0 b1 T]
    constructor
    · intro f
      exact ⟨fun t ht => f t (by omega), f T (Nat.lt_succ_self T)⟩
    · rintro ⟨f, g⟩ t ht
      rcases Nat.lt_or_ge t T with k | k
      · exact f t k
      · obtain rfl : t = T := by omega
        exact g
theorem fit_self (p : Th.Par) (T : Nat) : Fit p T p.lo p.hi := fun t _ => onn_was p t
/-- the same room but for its thresholds -/
def Alt (p q : Th.Par) : Prop := q.ch = p.ch ∧ q.g = p.g ∧ q.st = p.st ∧ q.on0 = p.on0
theorem alt_step {p q : Th.Par} (A : Alt p q) {t : Nat} (d : Th.deg q t = Th.deg p t) (o : Th.onn q t = Th.onn p t) : Th.deg q (t + 1) = Th.deg p (t + 1) := by
  obtain ⟨a1, a2, a3, a4⟩ := A
  rw [Th.deg_succ, Th.deg_succ, d, o, a1, a2]
theorem alt_zero {p q : Th.Par} (A : Alt p q) : Th.deg q 0 = Th.deg p 0 ∧ was q 0 = was p 0 := ⟨A.2.2.1, A.2.2.2⟩
theorem fit_same {p q : Th.Par} (A : Alt p q) {T : Nat} (f : Fit p T q.lo q.hi) : ∀ t, t ≤ T → Th.deg q t = Th.deg p t ∧ was q t = was p t
  | 0, _ => alt_zero A
  | t + 1, h => by
    obtain ⟨d, w⟩ := fit_same A f t (by omega)
    have o : Th.onn q t = Th.onn p t := by rw [onn_was q t, f t (by omega), d, w]
    exact ⟨alt_step A d o, o⟩
theorem mv_same {p q : Th.Par} (A : Alt p q) {T : Nat} (f : ∀ t, t < T → Mv q t = Mv p t) : ∀ t, t ≤ T → Th.deg q t = Th.deg p t ∧ was q t = was p t
  | 0, _ => alt_zero A
  | t + 1, h => by
    obtain ⟨d, w⟩ := mv_same A f t (by omega)
    have m := f t (by omega)
    have o : was q (t + 1) = was p (t + 1) := by
      unfold Mv at m
      rw [w] at m
      revert m
      cases was p t <;> cases was q (t + 1) <;> cases was p (t + 1) <;> simp
    exact ⟨alt_step A d o, o⟩
theorem mvs_at {p q : Th.Par} {T : Nat} (e : mvs q T = mvs p T) : ∀ t, t < T → Mv q t = Mv p t := fun t ht => by
  have h : t ∈ mvs q T ↔ t ∈ mvs p T := by rw [e]
  unfold mvs at h
  rw [List.mem_filter, List.mem_filter, List.mem_range] at h
  cases a : Mv q t <;> cases b : Mv p t <;> simp [a, b, ht] at h ⊢
theorem fit_mv {p q : Th.Par} (A : Alt p q) (T : Nat) : mvs q T = mvs p T ↔ Fit p T q.lo q.hi := by
  constructor
  · intro e t ht
    have s := mv_same A (mvs_at e)
    obtain ⟨d, w⟩ := s t (by omega)
    obtain ⟨_, w'⟩ := s (t + 1) (by omega)
    have w' : Th.onn q t = Th.onn p t := w'
    rw [← w', onn_was q t, d, w]
  · intro f
    have s := fit_same A f
    unfold mvs
    refine List.filter_congr fun t ht => ?_
    have ht := List.mem_range.mp ht
    unfold Mv
    rw [(s t (by omega)).2, (s (t + 1) (by omega)).2]
/-- what a room with other thresholds shows -/
theorem agree {p q : Th.Par} (A : Alt p q) (h : q.lo ≤ q.hi) (a0 : -1000000000000 ≤ q.lo) (a1 : q.lo ≤ 1000000000000) (b0 : -1000000000000 ≤ q.hi) (b1 : q.hi ≤ 1000000000000) (T : Nat) : mvs q T = mvs p T ↔ InR (rg p T) q.lo q.hi := by
  rw [fit_mv A, fit_rg h a0 a1 b0 b1]
/-! ### the observer -/
structure OT (p : Th.Par) (o : Ob) (T : Nat) : Prop where
  cs : o.cs = p.ch
  g : o.g = p.g
  on : o.on = was p T
  b : o.b = T
  dg : o.deg T = Th.deg p T
  r : (⟨o.l0, o.l1, o.h0, o.h1⟩ : Rg) = rg p T
theorem OT.run {p : Th.Par} {o : Ob} {T : Nat} (h : OT p o T) {e : Nat} (q : ∀ u, T ≤ u → u < e → Mv p u = false) : ∀ n : Nat, T + n ≤ e → was p (T + n) = o.on ∧ o.deg (T + n) = Th.deg p (T + n)
  | 0, _ => ⟨h.on.symm, h.dg⟩
  | n + 1, l => by
    obtain ⟨w, d⟩ := h.run q n (by omega)
    have m := q (T + n) (by omega) (by omega)
    unfold Mv at m
    rw [Bool.not_eq_false', decide_eq_true_eq] at m
    refine ⟨by rw [← w, m]; rfl, ?_⟩
    have e1 : o.deg (T + n + 1) = o.deg (T + n) + Th.chAt o.cs (T + n) + Th.gon o.g o.on := by
      unfold Ob.deg Th.Dg
      show o.base + (Th.sumTo _ _ (T + n) + Th.chAt _ _ + _) = _
      omega
    have m : was p (T + n) = Th.onn p (T + n) := m
    show o.deg (T + n + 1) = Th.deg p (T + n + 1)
    rw [e1, Th.deg_succ, d, h.cs, h.g, ← m, w]
/-- the ranges after a stretch -/
theorem rg_run {p : Th.Par} {T : Nat} {b : Bool} {F : Nat → Int} : ∀ n : Nat, (∀ k, k < n → was p (T + k) = b ∧ Th.onn p (T + k) = b ∧ Th.deg p (T + k) = F (T + k)) →
    (b = true → (rg p (T + n)).l0 = (rg p T).l0 ∧ (rg p (T + n)).l1 = (rg p T).l1 ∧ (rg p (T + n)).h1 = (rg p T).h1 ∧ ∀ x, (rg p (T + n)).h0 ≤ x ↔ (rg p T).h0 ≤ x ∧ ∀ k, k < n → F (T + k) ≤ x) ∧
    (b = false → (rg p (T + n)).l0 = (rg p T).l0 ∧ (rg p (T + n)).h0 = (rg p T).h0 ∧ (rg p (T + n)).h1 = (rg p T).h1 ∧ ∀ x, x ≤ (rg p (T + n)).l1 ↔ x ≤ (rg p T).l1 ∧ ∀ k, k < n → x ≤ F (T + k))
  | 0, _ => ⟨fun _ => ⟨rfl, rfl, rfl, fun x => ⟨fun h => ⟨h, fun k hk => absurd hk (Nat.not_lt_zero k)⟩, fun h => h.1⟩⟩, fun _ => ⟨rfl, rfl, rfl, fun x => ⟨fun h => ⟨h, fun k hk => absurd hk (Nat.not_lt_zero k)⟩, fun h => h.1⟩⟩⟩
  | n + 1, h => by
    obtain ⟨i1, i2⟩ := rg_run (F := F) n (fun k hk => h k (by omega))
    obtain ⟨w, o, d⟩ := h n (Nat.lt_succ_self n)
    have e : rg p (T + (n + 1)) = rgS b b (F (T + n)) (rg p (T + n)) := by
      show rgS (was p (T + n)) (Th.onn p (T + n)) (Th.deg p (T + n)) (rg p (T + n)) = _
      rw [w, o, d]
    rw [e]
    refine ⟨fun eb => ?_, fun eb => ?_⟩
    · obtain ⟨a1, a2, a3, a4⟩ := i1 eb
      rw [eb]
      refine ⟨a1, a2, a3, fun x => ?_⟩
      show mxv _ _ ≤ x ↔ _
      rw [le_mxv, a4]
      constructor
      · rintro ⟨⟨q1, q2⟩, q3⟩
        refine ⟨q1, fun k hk => ?_⟩
        rcases Nat.lt_or_ge k n with z | z
        · exact q2 k z
        · obtain rfl : k = n := by omega
          exact q3
      · rintro ⟨q1, q2⟩
        exact ⟨⟨q1, fun k hk => q2 k (by omega)⟩, q2 n (Nat.lt_succ_self n)⟩
    · obtain ⟨a1, a2, a3, a4⟩ := i2 eb
      rw [eb]
      refine ⟨a1, a2, a3, fun x => ?_⟩
      show x ≤ mnv _ _ ↔ _
      rw [mnv_le, a4]
      constructor
      · rintro ⟨⟨q1, q2⟩, q3⟩
        refine ⟨q1, fun k hk => ?_⟩
        rcases Nat.lt_or_ge k n with z | z
        · exact q2 k z
        · obtain rfl : k = n := by omega
          exact q3
      · rintro ⟨q1, q2⟩
        exact ⟨⟨q1, fun k hk => q2 k (by omega)⟩, q2 n (Nat.lt_succ_self n)⟩
theorem eq_of_le {a b : Int} (h : ∀ x, a ≤ x ↔ b ≤ x) : a = b := Int.le_antisymm ((h b).mpr (Int.le_refl _)) ((h a).mp (Int.le_refl _))
theorem eq_of_ge {a b : Int} (h : ∀ x, x ≤ a ↔ x ≤ b) : a = b := Int.le_antisymm ((h a).mp (Int.le_refl _)) ((h b).mpr (Int.le_refl _))
/-- the ranges after a stretch, by its extreme -/
theorem OT.rest_rg {p : Th.Par} {o : Ob} {T : Nat} (h : OT p o T) {e : Nat} (q : ∀ u, T ≤ u → u < e → Mv p u = false) {oe : Option Int} (le : T ≤ e) (ex : ExO o e oe) : (⟨o.l0, rL o.on oe o.l1, rH o.on oe o.h0, o.h1⟩ : Rg) = rg p e := by
  have hr := h.r
  obtain ⟨n, rfl⟩ : ∃ n, e = T + n := ⟨e - T, by omega⟩
  have st : ∀ k, k < n → was p (T + k) = o.on ∧ Th.onn p (T + k) = o.on ∧ Th.deg p (T + k) = o.deg (T + k) := fun k hk => by
    obtain ⟨w, d⟩ := h.run q k (by omega)
    obtain ⟨w', _⟩ := h.run q (k + 1) (by omega)
    exact ⟨w, w', d.symm⟩
  obtain ⟨i1, i2⟩ := rg_run (F := o.deg) n st
  rcases ex with ⟨e0, rfl⟩ | ⟨lt, d, t, rfl, mx⟩
  · have n0 : n = 0 := by have := h.b; omega
    subst n0
    exact hr
  · obtain ⟨m1, m2, m3, m4, m5⟩ := mx
    rw [h.b] at m1 m4 lt
    have m3 : o.deg t = d := m3
    have m4 : ∀ u, T ≤ u → u < T + n → sgOf o.on * o.deg u ≤ sgOf o.on * d := fun u a b => by
      have := m4 u a b
      exact this
    have e0 := congrArg Rg.l0 hr
    have e1 := congrArg Rg.l1 hr
    have e2 := congrArg Rg.h0 hr
    have e3 := congrArg Rg.h1 hr
    dsimp only at e0 e1 e2 e3
    have ext : ∀ {r s : Rg}, r.l0 = s.l0 → r.l1 = s.l1 → r.h0 = s.h0 → r.h1 = s.h1 → r = s := fun {r s} a b c d => by
      cases r; cases s; simp only [Rg.mk.injEq]; exact ⟨a, b, c, d⟩
    obtain ⟨k0, rfl⟩ : ∃ k, t = T + k := ⟨t - T, by omega⟩
    cases ho : o.on with
    | true =>
      obtain ⟨a1, a2, a3, a4⟩ := i1 ho
      have sg : sgOf o.on = 1 := by rw [ho]; rfl
      rw [sg] at m4
      refine ext (by dsimp only; rw [a1, e0]) (by show o.l1 = _; rw [a2, e1]) ?_ (by dsimp only; rw [a3, e3])
      show mxv o.h0 d = _
      refine eq_of_le fun x => ?_
      rw [le_mxv, a4, e2]
      constructor
      · rintro ⟨q1, q2⟩
        refine ⟨q1, fun k hk => ?_⟩
        have := m4 (T + k) (by omega) (by omega)
        omega
      · rintro ⟨q1, q2⟩
        refine ⟨q1, ?_⟩
        have := q2 k0 (by omega)
        omega
    | false =>
      obtain ⟨a1, a2, a3, a4⟩ := i2 ho
      have sg : sgOf o.on = -1 := by rw [ho]; rfl
      rw [sg] at m4
      refine ext (by dsimp only; rw [a1, e0]) ?_ (by show o.h0 = _; rw [a2, e2]) (by dsimp only; rw [a3, e3])
      show mnv o.l1 d = _
      refine eq_of_ge fun x => ?_
      rw [mnv_le, a4, e1]
      constructor
      · rintro ⟨q1, q2⟩
        refine ⟨q1, fun k hk => ?_⟩
        have := m4 (T + k) (by omega) (by omega)
        omega
      · rintro ⟨q1, q2⟩
        refine ⟨q1, ?_⟩
        have := q2 k0 (by omega)
        omega
theorem OT.rest {p : Th.Par} {o : Ob} {T : Nat} (h : OT p o T) {t : Nat} (q : ∀ u, T ≤ u → u < t + 1 → Mv p u = false) {oe : Option Int} (le : T ≤ t) (ex : ExO o (t + 1) oe) : OT p (o.rest t oe) (t + 1) := by
  obtain ⟨n, hn⟩ : ∃ n, t + 1 = T + n := ⟨t + 1 - T, by omega⟩
  obtain ⟨w, d⟩ := h.run q n (by omega)
  rw [← hn] at w d
  exact ⟨h.cs, h.g, w.symm, rfl, d, h.rest_rg q (by omega) ex⟩
theorem OT.sw {p : Th.Par} {o : Ob} {T : Nat} (h : OT p o T) {t : Nat} (q : ∀ u, T ≤ u → u < t → Mv p u = false) (m : Mv p t = true) {oe : Option Int} (le : T ≤ t) (ex : ExO o (t + 0) oe) : OT p (o.sw t oe) (t + 1) := by
  obtain ⟨n, rfl⟩ : ∃ n, t = T + n := ⟨t - T, by omega⟩
  obtain ⟨w, d⟩ := h.run q n (by omega)
  have r := h.rest_rg q (by omega) ex
  have o1 : Th.onn p (T + n) = !o.on := by
    unfold Mv at m
    rw [Bool.not_eq_true', decide_eq_false_iff_not, w] at m
    have m : ¬ o.on = Th.onn p (T + n) := m
    revert m
    cases o.on <;> cases Th.onn p (T + n) <;> simp
  have r2 : rg p (T + n + 1) = rgS o.on (!o.on) (o.deg (T + n)) (rg p (T + n)) := by
    show rgS (was p (T + n)) (Th.onn p (T + n)) (Th.deg p (T + n)) _ = _
    rw [w, o1, d]
  refine ⟨h.cs, h.g, o1.symm, rfl, ?_, ?_⟩
  · have e : (o.sw (T + n) oe).deg (T + n + 1) = o.deg (T + n) - Th.sumTo o.cs (Th.gon o.g (!o.on)) (T + n) + (Th.sumTo o.cs (Th.gon o.g (!o.on)) (T + n) + Th.chAt o.cs (T + n) + Th.gon o.g (!o.on)) := rfl
    rw [e, Th.deg_succ, ← d, o1, h.cs, h.g]
    omega
  · rw [r2, ← r]
    cases ho : o.on with
    | true =>
      show (⟨if o.on = true then o.l0 else _, rL o.on oe o.l1, rH o.on oe o.h0, if o.on = true then mnv o.h1 (o.deg (T + n) - 1) else o.h1⟩ : Rg) = _
      rw [ho, if_pos rfl, if_pos rfl]
      rfl
    | false =>
      show (⟨if o.on = true then o.l0 else mxv o.l0 (o.deg (T + n) + 1), rL o.on oe o.l1, rH o.on oe o.h0, if o.on = true then mnv o.h1 (o.deg (T + n) - 1) else o.h1⟩ : Rg) = _
      rw [ho, if_neg (by simp), if_neg (by simp)]
      rfl
theorem OT.good {p : Th.Par} {o : Ob} {T : Nat} (h : OT p o T) (ok : p.lo ≤ p.hi) (a0 : -1000000000000 ≤ p.lo) (b1 : p.hi ≤ 1000000000000) : ¬ o.bad ∧ o.l0 ≤ p.lo ∧ p.lo ≤ o.l1 ∧ o.h0 ≤ p.hi ∧ p.hi ≤ o.h1 := by
  have f := (fit_rg (p := p) ok a0 (by omega) (by omega) b1 T).mp (fit_self p T)
  rw [← h.r] at f
  obtain ⟨f1, f2, f3, f4⟩ := f
  dsimp only at f1 f2 f3 f4
  refine ⟨fun b => ?_, f1, f2, f3, f4⟩
  unfold Ob.bad BadR at b
  omega
end W6

namespace W6
open PySem PySem.Spec PyProof.Rows L2 Ru StX LamX
section
variable (er : Er)
def spGainX : Sp := fun vs H Q E => ∃ g : Int, vs = [.int g] ∧ ((1 ≤ g ∧ g ≤ 200) → Q .non H) ∧ (¬ (1 ≤ g ∧ g ≤ 200) → E (.ref (er.c 1)) none H)
def spNumX : Sp := fun vs H Q E => ∃ n l u : Int, vs = [.int n, .int l, .int u] ∧ ((l ≤ n ∧ n ≤ u) → Q .non H) ∧ (¬ (l ≤ n ∧ n ≤ u) → E (.ref (er.c 2)) none H)
end
section
variable {X : Cx} {a : Ad} {er : Er}
theorem gives_error2 {g : Addr} {cdg : Value} (T : Txt X.K X.mg a) (ER : ErT X.prog X.K X.mg er) : Gives2 X ["_law_call", "e", "_law_kinds", "_law_name"] "_law_error" (defScope s__law_error) g cdg (defBody s__law_error) "_law_call" (TTe er) := by
  intro f s H Q tl hr act h
  have isX : ∀ (ea : Addr) (oe : Obj) (cls : Value) (d : Option Addr) (pn : List (Addr × Obj)), Zc cls d oe → (∃ vs, oe.data = .fields vs) →
      CallR ((cxOf C8.CX0 X.prog X.w X.K X.mg X.base ["_law_call", "e", "_law_kinds", "_law_name"] "_law_error" (defScope s__law_error) g cdg X.A X.stack s H C8.E0).nox.suite ea ((ea, oe) :: pn)) (.builtin "isinstance") (rIsX X.K ea cls d) := fun _ _ _ _ _ hz hf => call_isX hz hf
  have byX : ∀ (ea : Addr) (oe : Obj) (cls : Value) (d : Option Addr) (pn : List (Addr × Obj)) (e : Expr) (te : TE) (pos : Pos), Zc cls d oe → (∃ vs, oe.data = .fields vs) →
      PE ((cxOf C8.CX0 X.prog X.w X.K X.mg X.base ["_law_call", "e", "_law_kinds", "_law_name"] "_law_error" (defScope s__law_error) g cdg X.A X.stack s H C8.E0).nox.suite ea ((ea, oe) :: pn)) e te →
      attributeBase e "index" (cxOf C8.CX0 X.prog X.w X.K X.mg X.base ["_law_call", "e", "_law_kinds", "_law_name"] "_law_error" (defScope s__law_error) g cdg X.A X.stack s H C8.E0).env (eval e (cxOf C8.CX0 X.prog X.w X.K X.mg X.base ["_law_call", "e", "_law_kinds", "_law_name"] "_law_error" (defScope s__law_error) g cdg X.A X.stack s H C8.E0).env) = eval e (cxOf C8.CX0 X.prog X.w X.K X.mg X.base ["_law_call", "e", "_law_kinds", "_law_name"] "_law_error" (defScope s__law_error) g cdg X.A X.stack s H C8.E0).env →
      PE ((cxOf C8.CX0 X.prog X.w X.K X.mg X.base ["_law_call", "e", "_law_kinds", "_law_name"] "_law_error" (defScope s__law_error) g cdg X.A X.stack s H C8.E0).nox.suite ea ((ea, oe) :: pn)) (.Attribute e "index" pos) (tByIx (er.c 3) ea cls d te) := fun _ _ _ _ _ _ _ _ hz hf he hb => pe_byIx (X := (cxOf C8.CX0 X.prog X.w X.K X.mg X.base ["_law_call", "e", "_law_kinds", "_law_name"] "_law_error" (defScope s__law_error) g cdg X.A X.stack s H C8.E0).nox) ER.ix hz hf he hb
  refine ⟨_, PSs.nox ((pss_cons (ps_try_as (i := 1) (ts := tErr X.K er) rfl rfl sc__law_error.nd rfl rfl ⟨rfl, by decide, .inl ER.g_WarmthError⟩ L2.takes0 (by exact fun W pn xe tk _ =>
      (pss_one (ps_expr (act W pn xe _ _ tk)))) (by exact fun ea oe cls d pn hz hf =>
      (pss_cons (ps_set (i := 2) sc__law_error.nd rfl (Or.inl rfl) (pe_lst (pa_cons (pe_callB (isX ea oe cls d pn hz hf) (by rfl) T.z_isinstance (by decide +kernel) (pa_cons (pv 1) (pa_cons (pe_glob (v := .ref (er.c 0)) (by rfl) ER.g_Contradiction rfl) pa_nil))) (pa_cons (pe_callB (isX ea oe cls d pn hz hf) (by rfl) T.z_isinstance (by decide +kernel) (pa_cons (pv 1) (pa_cons (pe_glob (v := .ref (er.c 1)) (by rfl) ER.g_InvalidHeater rfl) pa_nil))) (pa_cons (pe_callB (isX ea oe cls d pn hz hf) (by rfl) T.z_isinstance (by decide +kernel) (pa_cons (pv 1) (pa_cons (pe_glob (v := .ref (er.c 2)) (by rfl) ER.g_InvalidNumber rfl) pa_nil))) pa_nil)))))
      (pss_cons (ps_expr (pe_bm PySem.F.plainAttrs_list PySem.F.slot_list_extend PySem.F.type_list_extend mt_extend (pv 2) (pa_cons (pe_lst (pa_cons (pe_callB (isX ea oe cls d pn hz hf) (by rfl) T.z_isinstance (by decide +kernel) (pa_cons (pv 1) (pa_cons (pe_glob (v := .ref (er.c 3)) (by rfl) ER.g_InvalidWeather rfl) pa_nil))) (pa_cons (pe_callB (isX ea oe cls d pn hz hf) (by rfl) T.z_isinstance (by decide +kernel) (pa_cons (pv 1) (pa_cons (pe_glob (v := .ref (er.c 4)) (by rfl) ER.g_OtherWeather rfl) pa_nil))) pa_nil))) pa_nil)))
      (pss_cons (ps_if (PW.pt (pw_or (pt_cmpR op_ne (pe_bm PySem.F.plainAttrs_list PySem.F.slot_list_count PySem.F.type_list_count mt_countF (pv 2) (pa_cons pe_bl pa_nil)) pe_int (nomark _)) (pw_or1 (pt_not (pt_val (pe_callB (isX ea oe cls d pn hz hf) (by rfl) T.z_isinstance (by decide +kernel) (pa_cons (pv 1) (pa_cons (pe_bltn (v := .ty "ValueError") (by rfl) ER.z_ValueError (by decide +kernel) rfl) pa_nil)))))))) (pss_one (ps_ret (pe_tup (pa_cons pe_str pa_nil)))) pss_nil)
      (pss_cons (ps_set (i := 3) sc__law_error.nd rfl (Or.inl rfl) (pe_ix ix_list (pe_lst (pa_cons pe_str (pa_cons pe_str (pa_cons pe_str (pa_cons pe_str (pa_cons pe_str pa_nil)))))) (pe_bm PySem.F.plainAttrs_list PySem.F.slot_list_index PySem.F.type_list_index mt_index (pv 2) (pa_cons pe_bl pa_nil)) (fun _ _ => rfl)))
      (pss_one (ps_ret (pe_ifExp (pt_cmpR op_eq (pv 3) pe_str (nomark _)) (pe_tup (pa_cons (pv 3) (pa_cons (byX ea oe cls d pn _ _ _ hz hf (pv 1) rfl) pa_nil))) (pe_tup (pa_cons (pv 3) pa_nil)))))))))))
      (pss_one (ps_ret (pe_tup (pa_cons pe_str pa_nil)))))), ?_⟩
  refine ⟨rfl, Same.refl _, _, ?_, h⟩
  rintro cls d H' ⟨xs, ⟨j, rfl, hj⟩, go⟩
  refine ⟨true, ER.exm j, fun _ ea he => ?_, fun z => nomatch z⟩
  have hD : ∀ H2, Same H' H2 → DictAt d H2 := fun H2 sm => by
    rcases hj with ⟨_, dd, i, rfl, hx, _⟩ | ⟨_, rfl, _⟩
    · exact .inr ⟨dd, _, rfl, sm _ _ hx⟩
    · exact .inl rfl
  have c0 := hD _ (Same.refl _)
  refine ⟨_, rfl, er.c j, _, _, _, rfl, ER.ex j, c0, rfl, fun u e => e, ER.kit 0 j, _, rfl, er.c j, _, _, _, rfl, ER.ex j, c0, rfl, fun u e => e, ER.kit 1 j, _, rfl, er.c j, _, _, _, rfl, ER.ex j, c0, rfl, fun u e => e, ER.kit 2 j, by show 3 ≤ sizeLine; decide, fun l hl => ?_⟩
  have s1 : Same H' (upd H' l (.lst [.bl (decide ((0 : Fin 5) = j)), .bl (decide ((1 : Fin 5) = j)), .bl (decide ((2 : Fin 5) = j))])) := same_upd hl
  generalize hH1 : upd H' l _ = H1 at s1 ⊢
  have hl1 : H1 l = some (.lst [.bl (decide ((0 : Fin 5) = j)), .bl (decide ((1 : Fin 5) = j)), .bl (decide ((2 : Fin 5) = j))]) := by rw [← hH1]; exact upd_same
  have c1 := hD _ s1
  refine ⟨_, rfl, .inl ⟨rfl, _, SqL.of hl1⟩, _, rfl, er.c j, _, _, _, rfl, ER.ex j, c1, rfl, fun u e => e, ER.kit 3 j, _, rfl, er.c j, _, _, _, rfl, ER.ex j, c1, rfl, fun u e => e, ER.kit 4 j, by show 2 ≤ sizeLine; decide, fun m hm => ?_⟩
  have nlm : l ≠ m := ne_of_none hl1 hm
  refine ⟨l, m, _, _, rfl, rfl, by rw [upd_ne nlm]; exact hl1, upd_same, by show 3 + 2 ≤ sizeLine; decide, ?_⟩
  have nl : H' l = none := hl
  have s2 : Same H' (upd (upd H1 m (.lst [.bl (decide ((3 : Fin 5) = j)), .bl (decide ((4 : Fin 5) = j))])) l (.lst ([.bl (decide ((0 : Fin 5) = j)), .bl (decide ((1 : Fin 5) = j)), .bl (decide ((2 : Fin 5) = j))] ++ [.bl (decide ((3 : Fin 5) = j)), .bl (decide ((4 : Fin 5) = j))]))) := fun b o e => by
    rw [upd_ne (ne_of_none e nl), upd_ne (ne_of_none (s1 _ _ e) hm)]
    exact s1 _ _ e
  generalize hH2 : upd (upd H1 m _) l _ = H2 at s2 ⊢
  have hl2 : H2 l = some (.lst [.bl (decide ((0 : Fin 5) = j)), .bl (decide ((1 : Fin 5) = j)), .bl (decide ((2 : Fin 5) = j)), .bl (decide ((3 : Fin 5) = j)), .bl (decide ((4 : Fin 5) = j))]) := by rw [← hH2]; exact upd_same
  have c2 := hD _ s2
  refine ⟨_, rfl, .inl ⟨rfl, _, SqL.of hl2⟩, l, _, _, rfl, rfl, SqL.of hl2, rfl, rfl, rfl, _, rfl, ?_⟩
  rw [kinds_count j]
  refine ifF rfl ?_
  refine ⟨_, rfl, er.c j, _, _, _, rfl, ER.ex j, c2, rfl, fun u e => e, ER.kitV j, _, rfl, ?_⟩
  refine ifF rfl ?_
  refine ⟨by show 5 ≤ sizeLine; decide, fun n hn => ⟨_, rfl, .inl ⟨rfl, _, SqL.of (same_upd hn _ _ hl2)⟩, l, _, _, j.val, _, rfl, rfl, SqL.of (same_upd hn _ _ hl2), rfl, rfl, kinds_at j, rfl, kinds_no j, n, _, _, .str (erName j), rfl, rfl, SqL.of upd_same, at_int (Int.natCast_nonneg _) (names_at j), _, rfl, rfl, _, rfl, ?_⟩⟩
  have s3 : Same H' (upd H2 n (.lst [.str "contradiction", .str "heater", .str "number", .str "weather", .str "other weather"])) := s2.trans (same_upd hn)
  generalize hH3 : upd H2 n _ = H3 at s3 ⊢
  rcases hj with ⟨rfl, dd, i, rfl, hx, rfl⟩ | ⟨nj, rfl, rfl⟩
  · refine ifT rfl ?_
    refine ⟨_, rfl, _, rfl, rfl, rfl, dd, _, rfl, s3 _ _ hx, by show 2 ≤ sizeLine; decide, fun p hp => ?_⟩
    exact go p _ (s3.trans (same_upd hp)) upd_same
  · have e : decide (V.str (erName j) = V.str "weather") = false := by
      have k : ∀ j : Fin 5, j ≠ 3 → decide (V.str (erName j) = V.str "weather") = false := by decide
      exact k j nj
    refine ifF e ?_
    refine ⟨_, rfl, by show 1 ≤ sizeLine; decide, fun p hp => ?_⟩
    exact go p _ (s3.trans (same_upd hp)) upd_same
theorem give_error (T : Txt X.K X.mg a) (ER : ErT X.prog X.K X.mg er) : GiveF X ["_law_call", "e", "_law_kinds", "_law_name"] "_law_error" (defScope s__law_error) a.f__law_error (defBody s__law_error) "_law_call" (TTe er) := by
  have bb := b__law_error T
  obtain ⟨oc, od, kV, doc, pm, an, cdv, ct, osl, e, lk, hcd⟩ := T.F__law_error.ex
  rw [e] at lk bb
  exact ⟨T.mg__law_error, T.F__law_error.kp, ⟨_, _, _, _, _, _, _, _, _, _, _, lk, hcd, bb, gives_error2 T ER⟩, sc__law_error, rfl, .inl rfl, by decide, by decide⟩
end
section
variable {P : Program} {w : World} {K : PySem.W.Frag} {mg : Str → Option Value} {base : Heap} {a : Ad} {er : Er}
/-- a def whose code object stands at c -/
theorem okC {x qual : Str} {st : Stmt} {f c : Addr} {fd : FuncData} {N ps : List Str} {k : Nat} {sp : Sp} (F : Fun K x qual st f fd) (hc : fd.code = .ref c) (S : FnScope N ps (defScope st)) (len : ∀ vs H Q E, sp vs H Q E → vs.length = ps.length)
    (hbody : ∀ (A : Around) (outer : List Env) (s : Shared) (H : Hp) (vs : List V) (Q : VK) (E : XK), Room k (A.deeper (envOfC qual (defScope st) s.heap.objs.size f (.ref c))) → sp vs H Q E →
      ∃ t, PSs (cxOf CX0 P w K mg base N qual (defScope st) f (.ref c) A outer s H E).nox (defBody st) t ∧ t { nx := fun _ H' => Q .non H', rt := Q } (start N vs) H) : FnOk P w K mg base CX0 (k + 1) f fd ps sp := by
  obtain ⟨oc, od, kV, doc, pm, an, cdv, ct, osl, rfl, lk, hcd⟩ := F.ex
  have e : cdv = .ref c := hc
  subst e
  refine fn_of lk hcd S len fun A outer s H vs Q E hr hsp => ?_
  obtain ⟨t, h, q⟩ := hbody A outer s H vs Q E hr hsp
  exact ⟨t, h.nox, q⟩
theorem tabs_keep {Tb : List (Addr × Str)} {H H' : Hp} {x y : Addr} (lh : LH H x y) (k : Keep x y H H') (h : Tabs Tb H) : Tabs Tb H' := by
  obtain ⟨m, i, cs, h1, h2, _⟩ := lh
  have go : ∀ {b : Addr} {o : HO}, H b = some o → (∀ xs, o ≠ .lst xs) → H' b = some o := fun {b o} e n => k b o (fun z => by rw [z, h1] at e; exact n _ (Option.some.inj e).symm) (fun z => by rw [z, h2] at e; exact n _ (Option.some.inj e).symm) e
  intro p hp
  obtain ⟨ps, a1, a2, a3⟩ := h p hp
  refine ⟨ps, go a1 (fun xs z => nomatch z), a2, fun pos cv hc => ?_⟩
  obtain ⟨c, e1, e2⟩ := a3 pos cv hc
  exact ⟨c, e1, go e2 (fun xs z => nomatch z)⟩
theorem LH.ext {H H' : Hp} {x y : Addr} (h : LH H x y) (s : ExtN H H') : LH H' x y := by
  obtain ⟨m, i, cs, h1, h2, r⟩ := h
  exact ⟨m, i, cs, s _ _ h1 (fun _ z => nomatch z), s _ _ h2 (fun _ z => nomatch z), r⟩
theorem keep_tup {H H' : Hp} {x y b : Addr} {xs : List V} (lh : LH H x y) (k : Keep x y H H') (h : H b = some (.tup xs)) : H' b = some (.tup xs) := by
  obtain ⟨m, i, cs, h1, h2, _⟩ := lh
  exact k b _ (fun z => by rw [z, h1] at h; cases h) (fun z => by rw [z, h2] at h; cases h) h
/-- a lambda that ends in an error of our own (not InvalidWeather) is told as its name -/
theorem work_err {X : Cx} {k : Nat} {σ : L2.St} {H0 : Hp} {f : Addr} {params : Arguments} {body : Expr} {scope : Scope} {ds : List V} {t : XK → TE} {er : Er} (j : Fin 5) (nj : j ≠ 3) (la : LamAt X H0 f params body scope ds) (lb : LamB X k params body scope ds t)
    (go : ∀ (H' : Hp) (E : XK) (Q : VK), Same H0 H' → (∀ H'', Same H' H'' → E (.ref (er.c j)) none H'') → t E σ H' Q) : Work X k (TTe er) σ H0 f [.str (erName j)] :=
  ⟨params, body, scope, ds, t, la, lb, fun H' Q s h => go H' _ _ s fun H'' s'' => ⟨_, ⟨j, rfl, .inr ⟨nj, rfl, rfl⟩⟩, fun p H3 s3 hp => h p H3 (s''.trans s3) hp⟩⟩
/-- a lambda that ends without an error is told as "none" -/
theorem work_none {X : Cx} {k : Nat} {σ : L2.St} {H0 : Hp} {f : Addr} {params : Arguments} {body : Expr} {scope : Scope} {ds : List V} {t : XK → TE} {er : Er} (la : LamAt X H0 f params body scope ds) (lb : LamB X k params body scope ds t)
    (go : ∀ (H' : Hp) (E : XK) (Q : VK), Same H0 H' → (∀ v H'', Same H' H'' → Q v H'') → t E σ H' Q) : Work X k (TTe er) σ H0 f [.str "none"] :=
  ⟨params, body, scope, ds, t, la, lb, fun H' Q s h => go H' _ _ s fun v H'' s'' => ⟨by show 1 ≤ sizeLine; decide, fun p hp => h p _ (s''.trans (same_upd hp)) upd_same⟩⟩
theorem okx_check_gain (T : Txt K mg a) (ER : ErT P K mg er) (EX : ErX K er) : FnOk P w K mg base (L2.CX P w) 1 a.f_check_gain a.d_check_gain ["gain"] (spGainX er) := by
  refine T.F_check_gain.okX sc_check_gain (fun vs H Q E h => ?_) (fun cdv A outer s H vs Q E hr h => ?_)
  · obtain ⟨g, rfl, _⟩ := h
    rfl
  · obtain ⟨g, rfl, k, kx⟩ := h
    refine ⟨_, (pss_one (ps_if (pt_not (pt_chain op_le op_le pe_int (pv 0) (pe_glob (v := .int 200) rfl T.mg_MOST_GAIN.choose_spec ⟨_, rfl⟩))) (pss_one (ps_raise rfl (takes_of rfl rfl rfl rfl) (pmk_own PySem.F.excBase_ValueError (EX.xc 1 (by decide)) ER.g_InvalidHeater (EX.kp 1) (raises_own (EX.bx 1) (EX.ty 1)) rfl))) pss_nil)), ?_⟩
    refine ⟨_, rfl, _, _, rfl, rfl, _, rfl, ?_⟩
    by_cases g1 : 1 ≤ g
    · refine ifT (dT g1) ⟨_, _, rfl, rfl, _, rfl, ?_⟩
      by_cases g2 : g ≤ 200
      · refine ifF (nF g2) ?_
        exact k ⟨g1, g2⟩
      · refine ifT (nT g2) ?_
        exact kx fun z => g2 z.2
    · refine ifF (dF g1) ⟨_, rfl, ifT rfl ?_⟩
      exact kx fun z => g1 z.1
theorem okx_check_number (T : Txt K mg a) (ER : ErT P K mg er) (EX : ErX K er) : FnOk P w K mg base (L2.CX P w) 1 a.f_check_number a.d_check_number ["number", "least", "greatest"] (spNumX er) := by
  refine T.F_check_number.okX sc_check_number (fun vs H Q E h => ?_) (fun cdv A outer s H vs Q E hr h => ?_)
  · obtain ⟨n, l, u, rfl, _⟩ := h
    rfl
  · obtain ⟨n, l, u, rfl, k, kx⟩ := h
    refine ⟨_, (pss_one (ps_if (pt_not (pt_chain op_le op_le (pv 1) (pv 0) (pv 2))) (pss_one (ps_raise rfl (takes_of rfl rfl rfl rfl) (pmk_own PySem.F.excBase_ValueError (EX.xc 2 (by decide)) ER.g_InvalidNumber (EX.kp 2) (raises_own (EX.bx 2) (EX.ty 2)) rfl))) pss_nil)), ?_⟩
    refine ⟨_, rfl, _, rfl, _, _, rfl, rfl, _, rfl, ?_⟩
    by_cases g1 : l ≤ n
    · refine ifT (dT g1) ⟨_, rfl, _, _, rfl, rfl, _, rfl, ?_⟩
      by_cases g2 : n ≤ u
      · refine ifF (nF g2) ?_
        exact k ⟨g1, g2⟩
      · refine ifT (nT g2) ?_
        exact kx fun z => g2 z.2
    · refine ifF (dF g1) ⟨_, rfl, ifT rfl ?_⟩
      exact kx fun z => g1 z.1
end
end W6

/-! comparisons of nested data: what is the same, whole numbers in a row -/
namespace Ru
open PySem PySem.Spec PyProof.Rows L2 LamX
mutual
theorem eqv_self : ∀ d : PyData, d.canLay0 = true → PyData.eqv d d = true
  | .none, _ => by simp [PyData.eqv]
  | .bool b, _ => by simp [PyData.eqv]
  | .int i, _ => by simp [PyData.eqv]
  | .str x, _ => by simp [PyData.eqv]
  | .list xs, h => by
    have h : PyData.canLayAll0 xs = true := by simpa [PyData.canLay0] using h
    simp only [PyData.eqv]
    exact eqvAll_self xs h
  | .tuple xs, h => by
    have h : PyData.canLayAll0 xs = true := by simpa [PyData.canLay0] using h
    simp only [PyData.eqv]
    exact eqvAll_self xs h
  | .dict kvs, h => by simp [PyData.canLay0] at h
theorem eqvAll_self : ∀ ds : List PyData, PyData.canLayAll0 ds = true → PyData.eqvAll ds ds = true
  | [], _ => by simp [PyData.eqvAll]
  | x :: xs, h => by
    simp only [PyData.canLayAll0, Bool.and_eq_true] at h
    simp only [PyData.eqvAll, Bool.and_eq_true]
    exact ⟨eqv_self x h.1, eqvAll_self xs h.2⟩
end
/-- can be compared; at most so deep -/
def Sh (n : Nat) (d : PyData) : Prop := d.canLay0 = true ∧ d.depth ≤ n
theorem canAll : ∀ {ds : List PyData}, (∀ d ∈ ds, d.canLay0 = true) → PyData.canLayAll0 ds = true
  | [], _ => by simp [PyData.canLayAll0]
  | x :: xs, h => by
    simp only [PyData.canLayAll0, Bool.and_eq_true]
    exact ⟨h x (List.mem_cons_self ..), canAll fun d m => h d (List.mem_cons_of_mem _ m)⟩
theorem depAll {n : Nat} : ∀ {ds : List PyData}, (∀ d ∈ ds, d.depth ≤ n) → PyData.depthAll ds ≤ n
  | [], _ => by simp [PyData.depthAll]
  | x :: xs, h => by
    simp only [PyData.depthAll]
    exact Nat.max_le.mpr ⟨h x (List.mem_cons_self ..), depAll fun d m => h d (List.mem_cons_of_mem _ m)⟩
theorem Sh.int {n : Nat} {i : Int} : Sh n (.int i) := ⟨by simp [PyData.canLay0], by simp [PyData.depth]⟩
theorem Sh.bool {n : Nat} {b : Bool} : Sh n (.bool b) := ⟨by simp [PyData.canLay0], by simp [PyData.depth]⟩
theorem Sh.non {n : Nat} : Sh n .none := ⟨by simp [PyData.canLay0], by simp [PyData.depth]⟩
theorem Sh.str {n : Nat} {s : Str} (h : PyData.strOk s = true) : Sh n (.str s) := ⟨by simpa [PyData.canLay0] using h, by simp [PyData.depth]⟩
theorem Sh.list {n : Nat} {ds : List PyData} (h : ∀ d ∈ ds, Sh n d) : Sh (n + 1) (.list ds) := ⟨by simp only [PyData.canLay0]; exact canAll fun d m => (h d m).1, by simp only [PyData.depth]; exact Nat.succ_le_succ (depAll fun d m => (h d m).2)⟩
theorem Sh.tup {n : Nat} {ds : List PyData} (h : ∀ d ∈ ds, Sh n d) : Sh (n + 1) (.tuple ds) := ⟨by simp only [PyData.canLay0]; exact canAll fun d m => (h d m).1, by simp only [PyData.depth]; exact Nat.succ_le_succ (depAll fun d m => (h d m).2)⟩
theorem Sh.shaped {n : Nat} {d : PyData} (h : Sh n d) (l : n ≤ 64 := by decide) : SeqAt.shaped d = true := by
  unfold SeqAt.shaped
  rw [Bool.and_eq_true]
  exact ⟨h.1, decide_eq_true (Nat.le_trans h.2 l)⟩
theorem sh_nil {n : Nat} : ∀ d ∈ ([] : List PyData), Sh n d := fun d m => by cases m
theorem sh_cons {n : Nat} {x : PyData} {xs : List PyData} (h : Sh n x) (t : ∀ d ∈ xs, Sh n d) : ∀ d ∈ x :: xs, Sh n d := fun d m => by
  rcases List.mem_cons.mp m with rfl | m
  · exact h
  · exact t d m
theorem sh_ints {n : Nat} {ns : List Int} : ∀ d ∈ ns.map PyData.int, Sh n d := fun d m => by
  obtain ⟨i, _, rfl⟩ := List.mem_map.mp m
  exact Sh.int
section
variable {K : PySem.W.Frag} {H : Hp} {x y : V} {d e : PyData} {Q : VK}
theorem neD_self (h : Dp K H x d) (h2 : Dp K H y d) (s : SeqAt.shaped d = true) (q : Q (.bl false) H) : rNeD K x y H Q :=
  ⟨d, d, h, h2, s, s, by rw [eqv_self d (by unfold SeqAt.shaped at s; exact ((Bool.and_eq_true ..).mp s).1)]; exact q⟩
theorem eqD_self (h : Dp K H x d) (h2 : Dp K H y d) (s : SeqAt.shaped d = true) (q : Q (.bl true) H) : rEqD K x y H Q :=
  ⟨d, d, h, h2, s, s, by rw [eqv_self d (by unfold SeqAt.shaped at s; exact ((Bool.and_eq_true ..).mp s).1)]; exact q⟩
theorem dp_ints : ∀ ns : List Int, DpAll K H (ns.map V.int) (ns.map PyData.int)
  | [] => .nil
  | n :: r => .cons (.int n) (dp_ints r)
theorem eqvA_ints : ∀ xs ys : List Int, PyData.eqvAll (xs.map PyData.int) (ys.map PyData.int) = decide (xs = ys)
  | [], [] => by simp [PyData.eqvAll]
  | [], y :: ys => by simp [PyData.eqvAll]
  | x :: xs, [] => by simp [PyData.eqvAll]
  | x :: xs, y :: ys => by
    rw [List.map_cons, List.map_cons, PyData.eqvAll, eqvA_ints xs ys]
    by_cases e : x = y
    · by_cases f : xs = ys
      · simp [PyData.eqv, e, f]
      · simp [PyData.eqv, e, f]
    · simp [PyData.eqv, e]
variable {p q : Addr} {ns ms : List Int}
theorem eqL_ints (h : H p = some (.lst (ns.map V.int))) (h2 : H q = some (.lst (ms.map V.int))) (k : Q (.bl (decide (ns = ms))) H) : rEqD K (.ref p) (.ref q) H Q :=
  ⟨.list (ns.map PyData.int), .list (ms.map PyData.int), .lst (SqL.of h) (dp_ints ns), .lst (SqL.of h2) (dp_ints ms), (Sh.list (n := 0) sh_ints).shaped, (Sh.list (n := 0) sh_ints).shaped, by simp only [PyData.eqv]; rw [eqvA_ints]; exact k⟩
theorem neL_ints (h : H p = some (.lst (ns.map V.int))) (h2 : H q = some (.lst (ms.map V.int))) (k : Q (.bl (!decide (ns = ms))) H) : rNeD K (.ref p) (.ref q) H Q :=
  ⟨.list (ns.map PyData.int), .list (ms.map PyData.int), .lst (SqL.of h) (dp_ints ns), .lst (SqL.of h2) (dp_ints ms), (Sh.list (n := 0) sh_ints).shaped, (Sh.list (n := 0) sh_ints).shaped, by simp only [PyData.eqv]; rw [eqvA_ints]; exact k⟩
theorem eqT_ints (h : H p = some (.tup (ns.map V.int))) (h2 : H q = some (.tup (ms.map V.int))) (k : Q (.bl (decide (ns = ms))) H) : rEqD K (.ref p) (.ref q) H Q :=
  ⟨.tuple (ns.map PyData.int), .tuple (ms.map PyData.int), .tup (SqT.of h) (dp_ints ns), .tup (SqT.of h2) (dp_ints ms), (Sh.tup (n := 0) sh_ints).shaped, (Sh.tup (n := 0) sh_ints).shaped, by simp only [PyData.eqv]; rw [eqvA_ints]; exact k⟩
theorem neT_ints (h : H p = some (.tup (ns.map V.int))) (h2 : H q = some (.tup (ms.map V.int))) (k : Q (.bl (!decide (ns = ms))) H) : rNeD K (.ref p) (.ref q) H Q :=
  ⟨.tuple (ns.map PyData.int), .tuple (ms.map PyData.int), .tup (SqT.of h) (dp_ints ns), .tup (SqT.of h2) (dp_ints ms), (Sh.tup (n := 0) sh_ints).shaped, (Sh.tup (n := 0) sh_ints).shaped, by simp only [PyData.eqv]; rw [eqvA_ints]; exact k⟩
end
end Ru

namespace W6
open PySem PySem.Spec PyProof.Rows L2 Ru StX
/-- the heater before each tick -/
def stV (p : Th.Par) (n : Nat) : List V := (List.range (n + 1)).map fun t => V.bl (was p t)
def dgV (p : Th.Par) (n : Nat) : List V := (List.range n).map fun t => V.int (Th.deg p t)
theorem stV_eq (p : Th.Par) (n : Nat) : stV p n = V.bl p.on0 :: (List.range n).map fun t => V.bl (Th.onn p t) := by
  unfold stV
  rw [List.range_succ_eq_map, List.map_cons, List.map_map]
  rfl
theorem at_map {f : Nat → V} {n t : Nat} (h : t < n) : atI ((List.range n).map f) (t : Int) = some (f t) := atI_nat (by rw [List.getElem?_map, List.getElem?_range h]; rfl)
theorem stV_at {p : Th.Par} {n t : Nat} (h : t ≤ n) : atI (stV p n) (t : Int) = some (.bl (was p t)) := at_map (f := fun t => V.bl (was p t)) (Nat.lt_succ_of_le h)
theorem dgV_at {p : Th.Par} {n t : Nat} (h : t < n) : atI (dgV p n) (t : Int) = some (.int (Th.deg p t)) := at_map (f := fun t => V.int (Th.deg p t)) h
/-- ticks as whole numbers -/
def tkI (ts : List Nat) : List Int := ts.map fun (t : Nat) => (t : Int)
theorem tkI_inj {a b : List Nat} : tkI a = tkI b ↔ a = b := by
  unfold tkI
  exact ⟨fun h => List.map_inj_right (fun x y e => by omega) |>.mp h, fun h => by rw [h]⟩
theorem tkI_len (ts : List Nat) : (tkI ts).length = ts.length := List.length_map _
theorem tkI_snoc (ts : List Nat) (n : Nat) : tkI (ts ++ [n]) = tkI ts ++ [(n : Int)] := by unfold tkI; rw [List.map_append]; rfl
theorem mvs_succ (p : Th.Par) (n : Nat) : mvs p (n + 1) = if Mv p n = true then mvs p n ++ [n] else mvs p n := by
  unfold mvs
  rw [List.range_succ, List.filter_append]
  by_cases h : Mv p n = true
  · rw [if_pos h]; simp [h]
  · rw [if_neg h]; simp [h]
theorem mvs_len (p : Th.Par) (n : Nat) : (mvs p n).length ≤ n := by
  have := List.length_filter_le (Mv p) (List.range n)
  rw [List.length_range] at this
  exact this
theorem chAt_at {cs : List Int} (n1 : 1 ≤ cs.length) (t : Nat) : cs[t % cs.length]? = some (Th.chAt cs t) := by
  have m := Nat.mod_lt t (show 0 < cs.length by omega)
  unfold Th.chAt
  rw [List.getD_eq_getElem?_getD, List.getElem?_eq_getElem m]
  rfl
theorem laterB {G : Prop} (T : Bool → Prop) {S : Bool → Prop} (a : (∀ b, S b → T b) → G) (b : ∀ b, S b → T b) : G := a b
section
variable (a : Ad)
def spTold : Sp := fun vs H Q _ => ∃ (tc ts : Addr) (p : Th.Par) (n : Nat), vs = [.ref tc, .ref ts, .int n] ∧ 1 ≤ p.ch.length ∧ 1 ≤ p.g ∧ p.g ≤ 200 ∧ n ≤ 1000000 ∧ H tc = some (.tup (p.ch.map V.int)) ∧ H ts = some (.tup [.int p.g, .int p.lo, .int p.hi, .int p.st, .bl p.on0]) ∧
  ∀ z lf ls H', Same H H' → H lf = none → H ls = none → H' z = some (.tup [.ref lf, .ref ls]) → H' lf = some (.lst ((List.range n).map fun t => V.int (Th.deg p t))) → H' ls = some (.lst ((List.range n).map fun t => V.bl (Th.onn p t))) → Q (.ref z) H'
end
section
variable {P : Program} {w : World} {K : PySem.W.Frag} {mg : Str → Option Value} {base : Heap} {a : Ad}
set_option maxHeartbeats 0 in
theorem ok__law_told (T : Txt K mg a) : FnOk P w K mg base CX0 1 a.f__law_told a.d__law_told ["_law_changes_here", "_law_setting_here", "_law_count"] spTold := by
  refine T.F__law_told.ok sc__law_told (fun vs H Q E h => ?_) (fun cdv A outer s H vs Q E hr h => ?_)
  · obtain ⟨tc, ts, p, n, rfl, _⟩ := h
    rfl
  · obtain ⟨tc, ts, p, n, rfl, n1, g1, g200, n6, htc, hts, k⟩ := h
    refine ⟨_, (pss_cons (ps_asg (pv 1) (pg_tup rfl (pgs_cons (pg_name (i := 3) sc__law_told.nd rfl (Or.inl rfl)) (pgs_cons (pg_name (i := 4) sc__law_told.nd rfl (Or.inl rfl)) (pgs_cons (pg_name (i := 5) sc__law_told.nd rfl (Or.inl rfl)) (pgs_cons (pg_name (i := 6) sc__law_told.nd rfl (Or.inl rfl)) (pgs_cons (pg_name (i := 7) sc__law_told.nd rfl (Or.inl rfl)) pgs_nil)))))))
      (pss_cons (ps_par (i := 8) (j := 9) (by rfl) sc__law_told.nd rfl rfl (by decide) rfl rfl (pa_cons (pe_lst pa_nil) (pa_cons (pe_lst pa_nil) pa_nil)) (by rfl))
      (pss_cons (ps_for PassesOwn.never rfl (pi_range1 (by rfl) T.z_range (pa_cons (pv 2) pa_nil)) (pg_name (i := 10) sc__law_told.nd rfl (Or.inl rfl))
        (pss_cons (ps_if (pt_cmpR op_lt (pv 6) (pv 4) (nomark _)) (pss_one (ps_set (i := 7) sc__law_told.nd rfl (Or.inl rfl) pe_bl)) (pss_one (ps_if (pt_cmpR op_gt (pv 6) (pv 5) (nomark _)) (pss_one (ps_set (i := 7) sc__law_told.nd rfl (Or.inl rfl) pe_bl)) pss_nil)))
      (pss_cons (ps_expr (pe_bm PySem.F.plainAttrs_list PySem.F.slot_list_append PySem.F.type_list_append mt_append (pv 8) (pa_cons (pv 6) pa_nil)))
      (pss_cons (ps_expr (pe_bm PySem.F.plainAttrs_list PySem.F.slot_list_append PySem.F.type_list_append mt_append (pv 9) (pa_cons (pv 7) pa_nil)))
      (pss_cons (ps_set (i := 11) sc__law_told.nd rfl (Or.inl rfl) (pe_ix ix_tup (pv 0) (pe_op op_mod (pv 10) (pe_callB call_len_seq (by rfl) T.z_len PySem.boot_len (pa_cons (pv 0) pa_nil))) (fun _ _ => rfl)))
      (pss_one (ps_set (i := 6) sc__law_told.nd rfl (Or.inl rfl) (pe_op op_add (pe_op op_add (pv 6) (pv 11)) (pe_op op_mul (pv 3) (pe_callTy call_int1 (by rfl) T.z_int (by decide +kernel) (pa_cons (pv 7) pa_nil)))))))))))
      (pss_one (ps_ret (pe_tup (pa_cons (pv 8) (pa_cons (pv 9) pa_nil)))))))), ?_⟩
    have ln : (p.ch.map V.int).length = p.ch.length := List.length_map _
    refine ⟨_, rfl, ts, _, rfl, SqT.of hts, rfl, _, _, rfl, _, _, rfl, _, _, rfl, _, _, rfl, _, _, rfl, rfl, ?_⟩
    refine ⟨Nat.zero_le _, fun lf nlf => ⟨Nat.zero_le _, fun ls nls => ⟨_, _, rfl, ?_⟩⟩⟩
    have nfs : lf ≠ ls := ne_of_none upd_same nls
    have s0 : Same H (upd (upd H lf (.lst [])) ls (.lst [])) := (same_upd nlf).trans (same_upd nls)
    refine ⟨_, rfl, (n : Int), rfl, by omega, by omega, ?_⟩
    refine for_range (lo := 0) (n := ((n : Int)).toNat) (fun i σ H' => ∃ u v : Option V, σ = [some (.ref tc), some (.ref ts), some (.int n), some (.int p.g), some (.int p.lo), some (.int p.hi), some (.int (Th.deg p i)), some (.bl (was p i)), some (.ref lf), some (.ref ls), u, v] ∧ (∀ b o, b ≠ lf → b ≠ ls → H b = some o → H' b = some o) ∧ H' lf = some (.lst ((List.range i).map fun t => V.int (Th.deg p t))) ∧ H' ls = some (.lst ((List.range i).map fun t => V.bl (Th.onn p t))))
      ⟨none, none, rfl, fun b o _ _ e => s0 _ _ e, by rw [upd_ne nfs, upd_same]; rfl, by rw [upd_same]; rfl⟩ ?_ ?_
    · rintro i σ H' hi ⟨u, v, rfl, kp, hf, hl⟩
      have hi : i < n := by omega
      have ow := onn_was p i
      unfold Th.hst at ow
      refine laterB ?T (S := fun b => b = Th.onn p i) (fun tail => ?go) ?rest
      case go =>
        refine ⟨_, rfl, _, rfl, _, _, rfl, rfl, _, rfl, ?_⟩
        by_cases c1 : ¬ Th.deg p i < p.lo
        · rw [if_neg c1] at ow
          refine ifF (dF c1) ?_
          refine ⟨_, rfl, _, rfl, _, _, rfl, rfl, _, rfl, ?_⟩
          by_cases c2 : ¬ Th.deg p i > p.hi
          · rw [if_neg c2] at ow
            refine ifF (dF c2) ?_
            obtain ⟨hb, eb⟩ : ∃ hb, hb = was p i := ⟨_, rfl⟩
            rw [← eb]
            exact tail hb (eb.trans ow.symm)
          · have c2 : Th.deg p i > p.hi := Decidable.of_not_not c2
            rw [if_pos c2] at ow
            refine ifT (dT c2) ?_
            exact tail false ow.symm
        · have c1 : Th.deg p i < p.lo := Decidable.of_not_not c1
          rw [if_pos c1] at ow
          refine ifT (dT c1) ?_
          exact tail true ow.symm
      case rest =>
        rintro hb rfl
        refine ⟨_, rfl, .inl ⟨rfl, _, SqL.of hf⟩, _, rfl, lf, _, _, rfl, rfl, hf, by rw [List.length_map, List.length_range]; show _ < 16777216; omega, ?_⟩
        have hl1 := (upd_ne (H := H') (o := .lst (((List.range i).map fun t => V.int (Th.deg p t)) ++ [V.int (Th.deg p i)])) nfs.symm).trans hl
        refine ⟨_, rfl, .inl ⟨rfl, _, SqL.of hl1⟩, _, rfl, ls, _, _, rfl, rfl, hl1, by rw [List.length_map, List.length_range]; show _ < 16777216; omega, ?_⟩
        have ntf : tc ≠ lf := ne_of_none htc nlf
        have ntl : tc ≠ ls := ne_of_none (same_upd (o := .lst []) nlf _ _ htc) nls
        have htc2 := (upd_ne (H := upd H' lf (.lst (((List.range i).map fun t => V.int (Th.deg p t)) ++ [V.int (Th.deg p i)]))) (o := .lst (((List.range i).map fun t => V.bl (Th.onn p t)) ++ [V.bl (Th.onn p i)])) ntl).trans ((upd_ne ntf).trans (kp _ _ ntf ntl htc))
        have em : (0 + (i : Int)) % (((p.ch.map V.int).length : Nat) : Int) = ((i % p.ch.length : Nat) : Int) := by rw [ln, Int.zero_add]; rfl
        refine ⟨_, rfl, _, rfl, _, rfl, tc, _, rfl, .inr (SqT.of htc2), _, _, rfl, rfl, by rw [ln]; omega, tc, _, _, _, rfl, rfl, SqT.of htc2, by rw [em]; exact atI_nat (v := V.int (Th.chAt p.ch i)) (by rw [List.getElem?_map, chAt_at n1]; rfl), ?_⟩
        refine ⟨_, rfl, _, rfl, _, _, rfl, rfl, _, rfl, _, rfl, .inr ⟨_, rfl, _, _, rfl, rfl, .inl ⟨by omega, by omega⟩, _, _, rfl, rfl, ?_⟩⟩
        have ed : Th.deg p i + Th.chAt p.ch i + p.g * (if Th.onn p i = true then 1 else 0) = Th.deg p (i + 1) := by
          rw [Th.deg_succ]
          unfold Th.gon
          split <;> simp
        refine ⟨_, _, by rw [← ed]; rfl, fun b o n1 n2 e => ?_, ?_, ?_⟩
        · rw [upd_ne n2, upd_ne n1]; exact kp b o n1 n2 e
        · rw [upd_ne nfs, upd_same, List.range_succ, List.map_append]; rfl
        · rw [upd_same, List.range_succ, List.map_append]; rfl
    · rintro σ H' ⟨u, v, rfl, kp, hf, hl⟩
      have hf : H' lf = some (.lst ((List.range n).map fun t => V.int (Th.deg p t))) := hf
      have hl : H' ls = some (.lst ((List.range n).map fun t => V.bl (Th.onn p t))) := hl
      have sm : Same H H' := fun b o e => kp b o (ne_of_none e nlf) (by
        intro q
        rw [q] at e
        have := same_upd (o := .lst []) nlf _ _ e
        rw [nls] at this; cases this) e
      refine ⟨_, rfl, _, rfl, by show 2 ≤ sizeLine; decide, fun z nz => ?_⟩
      exact k z lf ls _ (sm.trans (same_upd nz)) nlf ((upd_ne nfs.symm).symm.trans nls) upd_same (same_upd nz _ _ hf) (same_upd nz _ _ hl)
def spAg : Sp := fun vs H Q _ => ∃ (tc ts tl : Addr) (p : Th.Par) (n : Nat) (ms : List Nat), vs = [.ref tc, .ref ts, .ref tl, .int ((n : Int) - 1)] ∧ 1 ≤ p.ch.length ∧ 1 ≤ p.g ∧ p.g ≤ 200 ∧ n ≤ 1000 ∧ H tc = some (.tup (p.ch.map V.int)) ∧ H ts = some (.tup [.int p.g, .int p.lo, .int p.hi, .int p.st, .bl p.on0]) ∧
  H tl = some (.lst ((tkI ms).map V.int)) ∧ ∀ H', Same H H' → Q (.bl (decide (mvs p n = ms))) H'
set_option maxHeartbeats 0 in
theorem ok__law_agrees (T : Txt K mg a) : FnOk P w K mg base CX0 2 a.f__law_agrees a.d__law_agrees ["_law_changes_here", "_law_setting_here", "_law_told_here", "_law_last"] spAg := by
  have G__law_told : FnOk P w K mg base CX0 1 a.f__law_told a.d__law_told ["_law_changes_here", "_law_setting_here", "_law_count"] spTold := ok__law_told T
  refine T.F__law_agrees.ok sc__law_agrees (fun vs H Q E h => ?_) (fun cdv A outer s H vs Q E hr h => ?_)
  · obtain ⟨tc, ts, tl, p, n, ms, rfl, _⟩ := h
    rfl
  · obtain ⟨tc, ts, tl, p, n, ms, rfl, n1, g1, g200, n3, htc, hts, htl, k⟩ := h
    refine ⟨_, (pss_cons (ps_set (i := 4) sc__law_agrees.nd rfl (Or.inr rfl) (pe_op op_cat (pe_lst (pa_cons (pe_ix (show IxR _ (rIxT K) from ix_tup) (pv 1) pe_int (fun _ _ => rfl)) pa_nil)) (pe_ix (show IxR _ (rIxT K) from ix_tup) (pe_call G__law_told (hr.mono (by decide)) (by rfl) T.mg__law_told T.F__law_told.kp (b__law_told T) .nil pass0 (pa_cons (pv 0) (pa_cons (pv 1) (pa_cons (pe_op op_add (pv 3) pe_int) pa_nil)))) pe_int (fun _ _ => rfl))))
      (pss_one (ps_ret (pe_cmpR (op_eqD hr.units) (pe_lc (own := [("_law_tick", 5)]) (g := gName 5) rfl sc__law_agrees.nd (pi_range1 (by rfl) T.z_range (pa_cons (pe_op op_add (pv 3) pe_int) pa_nil)) (blkOk_by (own := [("_law_tick", 5)]) (N := ["_law_changes_here", "_law_setting_here", "_law_told_here", "_law_last", "_law_states", "_law_tick"]) (sc := (defScope s__law_agrees)) (by decide +kernel)) (fun _ _ _ _ _ => pg_name (i := 5) sc__law_agrees.nd rfl (Or.inl rfl)) (fun _ _ _ _ _ => pts_one (pt_cmpR op_ne (pe_ix (show IxR _ (rIxL K) from ix_list) (pv 4) (pv 5) (fun _ _ => rfl)) (pe_ix (show IxR _ (rIxL K) from ix_list) (pv 4) (pe_op op_add (pv 5) pe_int) (fun _ _ => rfl)) (nomark _))) (fun _ _ _ _ _ => (pv 5))) (pv 2) (nomark _))))), ?_⟩
    refine ⟨_, rfl, ts, _, _, _, rfl, rfl, SqT.of hts, rfl, by show 1 ≤ sizeLine; decide, fun l0 nl0 => ?_⟩
    have s1 := same_upd (o := .lst [.bl p.on0]) nl0
    refine ⟨_, rfl, _, rfl, _, rfl, _, _, rfl, rfl, tc, ts, p, n, congrArg (fun v => [V.ref tc, V.ref ts, V.int v]) (show (n : Int) - 1 + 1 = (n : Int) by omega), n1, g1, g200, by omega, s1 _ _ htc, s1 _ _ hts, fun z lf ls H2 s2 nf ns hz hlf hls => ?_⟩
    have s12 := s1.trans s2
    refine ⟨z, _, _, _, rfl, rfl, SqT.of hz, rfl, ?_⟩
    refine ⟨l0, ls, _, _, rfl, rfl, s2 _ _ upd_same, hls, by rw [List.length_map, List.length_range]; show 1 + n ≤ _; exact Nat.le_trans (by omega : 1 + n ≤ 1001) (by decide), fun L nL => ?_⟩
    rw [show [V.bl p.on0] ++ (List.range n).map (fun t => V.bl (Th.onn p t)) = stV p n from (stV_eq p n).symm]
    have s3 := same_upd (o := .lst (stV p n)) nL
    have hL : upd H2 L (.lst (stV p n)) L = some (.lst (stV p n)) := upd_same
    have s13 := s12.trans s3
    generalize upd H2 L (.lst (stV p n)) = H3 at s3 hL s13 ⊢
    refine ⟨_, rfl, _, _, rfl, rfl, _, rfl, by omega, by omega, fun D hD => lc_range (lo := 0) (n := ((n : Int) - 1 + 1).toNat) (fun i H' => Same H3 H' ∧ H' D = some (.lst ((tkI (mvs p i)).map V.int))) ⟨same_upd hD, upd_same⟩ ?_ ?_⟩
    · rintro i H' hi ⟨s4, hD'⟩
      have hi : i < n := by omega
      have hL' := s4 _ _ hL
      have e0 : (0 : Int) + (i : Int) = (i : Int) := Int.zero_add _
      have e1 : (i : Int) + 1 = ((i + 1 : Nat) : Int) := by omega
      refine ⟨rfl, _, rfl, _, rfl, L, _, _, _, rfl, rfl, SqL.of hL', by rw [e0]; exact stV_at (Nat.le_of_lt hi), _, rfl, _, rfl, _, _, rfl, rfl, L, _, _, _, rfl, rfl, SqL.of hL', by rw [e0, e1]; exact stV_at hi, rfl, _, rfl, ?_⟩
      by_cases m : was p i = was p (i + 1)
      · refine ifF (by rw [m]; show (!decide (V.bl _ = V.bl _)) = false; rw [decide_eq_true rfl]; rfl) ?_
        refine ⟨s4, ?_⟩
        have : ¬ Mv p i = true := by unfold Mv; simp [m]
        rw [mvs_succ, if_neg this]
        exact hD'
      · refine ifT (by show (!decide (V.bl _ = V.bl _)) = true; rw [decide_eq_false (fun e => m (V.bl.inj e))]; rfl) ?_
        have : Mv p i = true := by unfold Mv; simp [m]
        refine ⟨_, rfl, _, hD', by rw [List.length_map, tkI_len]; exact Nat.lt_of_le_of_lt (Nat.le_trans (mvs_len p i) (by omega : i ≤ 1000)) (by decide), fun b u e => by rw [upd_ne (ne_of_none e hD)]; exact s4 _ _ e, ?_⟩
        rw [upd_same, mvs_succ, if_pos this, tkI_snoc, List.map_append, e0]
        rfl
    · rintro H' ⟨s4, hD'⟩
      rw [show ((n : Int) - 1 + 1).toNat = n by omega] at hD'
      refine ⟨_, rfl, eqL_ints hD' ((s13.trans s4) _ _ htl) ?_⟩
      rw [decide_eq_decide.mpr tkI_inj]
      exact k _ (s13.trans s4)
/-- the ranges of both thresholds -/
def spRg : Sp := fun vs H Q _ => ∃ (dg st : Addr) (p : Th.Par) (N n : Nat), vs = [.ref dg, .ref st, .int n] ∧ n ≤ N ∧ N ≤ 1000 ∧ H dg = some (.lst (dgV p N)) ∧ H st = some (.lst (stV p N)) ∧
  ∀ z x y H', Same H H' → H' z = some (.lst [.ref x, .ref y]) → H' x = some (.tup [.int (rg p n).l0, .int (rg p n).l1]) → H' y = some (.tup [.int (rg p n).h0, .int (rg p n).h1]) → Q (.ref z) H'
set_option maxHeartbeats 0 in
theorem ok__law_ranges (T : Txt K mg a) : FnOk P w K mg base CX0 1 a.f__law_ranges a.d__law_ranges ["_law_degrees", "_law_states", "_law_seen"] spRg := by
  refine T.F__law_ranges.ok sc__law_ranges (fun vs H Q E h => ?_) (fun cdv A outer s H vs Q E hr h => ?_)
  · obtain ⟨dg, st, p, N, n, rfl, _⟩ := h
    rfl
  · obtain ⟨dg, st, p, N, n, rfl, nN, N3, hdg, hst, k⟩ := h
    refine ⟨_, (pss_cons (ps_asg (pe_tup (pa_cons (pe_un un_neg (pe_op op_pow pe_int pe_int)) (pa_cons (pe_op op_pow pe_int pe_int) (pa_cons (pe_un un_neg (pe_op op_pow pe_int pe_int)) (pa_cons (pe_op op_pow pe_int pe_int) pa_nil))))) (pg_tup rfl (pgs_cons (pg_name (i := 3) sc__law_ranges.nd rfl (Or.inl rfl)) (pgs_cons (pg_name (i := 4) sc__law_ranges.nd rfl (Or.inl rfl)) (pgs_cons (pg_name (i := 5) sc__law_ranges.nd rfl (Or.inl rfl)) (pgs_cons (pg_name (i := 6) sc__law_ranges.nd rfl (Or.inl rfl)) pgs_nil))))))
      (pss_cons (ps_for PassesOwn.never rfl (pi_range1 (by rfl) T.z_range (pa_cons (pv 2) pa_nil)) (pg_name (i := 7) sc__law_ranges.nd rfl (Or.inl rfl))
        (pss_one (ps_if (PW.pt (pw_and (pt_val (pe_ix ix_list (pv 1) (pv 7) (fun _ _ => rfl))) (pw_and1 (pt_val (pe_ix ix_list (pv 1) (pe_op op_add (pv 7) pe_int) (fun _ _ => rfl)))))) (pss_one (ps_set (i := 5) sc__law_ranges.nd rfl (Or.inl rfl) (pe_callB (call_max2 rfl) (by rfl) T.z_max (by decide +kernel) (pa_cons (pv 5) (pa_cons (pe_ix ix_list (pv 0) (pv 7) (fun _ _ => rfl)) pa_nil))))) (pss_one (ps_if (pt_val (pe_ix ix_list (pv 1) (pv 7) (fun _ _ => rfl))) (pss_one (ps_set (i := 6) sc__law_ranges.nd rfl (Or.inl rfl) (pe_callB (call_min2 rfl) (by rfl) T.z_min (by decide +kernel) (pa_cons (pv 6) (pa_cons (pe_op op_sub (pe_ix ix_list (pv 0) (pv 7) (fun _ _ => rfl)) pe_int) pa_nil))))) (pss_one (ps_if (pt_val (pe_ix ix_list (pv 1) (pe_op op_add (pv 7) pe_int) (fun _ _ => rfl))) (pss_one (ps_set (i := 3) sc__law_ranges.nd rfl (Or.inl rfl) (pe_callB (call_max2 rfl) (by rfl) T.z_max (by decide +kernel) (pa_cons (pv 3) (pa_cons (pe_op op_add (pe_ix ix_list (pv 0) (pv 7) (fun _ _ => rfl)) pe_int) pa_nil))))) (pss_one (ps_set (i := 4) sc__law_ranges.nd rfl (Or.inl rfl) (pe_callB (call_min2 rfl) (by rfl) T.z_min (by decide +kernel) (pa_cons (pv 4) (pa_cons (pe_ix ix_list (pv 0) (pv 7) (fun _ _ => rfl)) pa_nil))))))))))))
      (pss_one (ps_ret (pe_lst (pa_cons (pe_tup (pa_cons (pv 3) (pa_cons (pv 4) pa_nil))) (pa_cons (pe_tup (pa_cons (pv 5) (pa_cons (pv 6) pa_nil))) pa_nil))))))), ?_⟩
    have p12 : (10 : Int) ^ (12 : Int).toNat = 1000000000000 := by decide
    refine ⟨10, 12, rfl, rfl, ⟨by decide, by decide, by decide⟩, _, rfl, 10, 12, rfl, rfl, ⟨by decide, by decide, by decide⟩, 10, 12, rfl, rfl, ⟨by decide, by decide, by decide⟩, _, rfl, 10, 12, rfl, rfl, ⟨by decide, by decide, by decide⟩, by show 4 ≤ sizeLine; decide, fun tp ntp => ?_⟩
    refine ⟨tp, _, rfl, SqT.of upd_same, rfl, _, _, rfl, _, _, rfl, _, _, rfl, _, _, rfl, rfl, ?_⟩
    have s1 := same_upd (o := .tup [.int (-10 ^ (12 : Int).toNat), .int (10 ^ (12 : Int).toNat), .int (-10 ^ (12 : Int).toNat), .int (10 ^ (12 : Int).toNat)]) ntp
    generalize upd H tp _ = H1 at s1 ⊢
    refine ⟨_, rfl, (n : Int), rfl, by omega, by omega, ?_⟩
    refine for_range (lo := 0) (n := ((n : Int)).toNat) (fun i σ H' => H' = H1 ∧ ∃ u : Option V, σ = [some (.ref dg), some (.ref st), some (.int n), some (.int (rg p i).l0), some (.int (rg p i).l1), some (.int (rg p i).h0), some (.int (rg p i).h1), u]) ⟨rfl, none, by rw [p12]; rfl⟩ ?_ ?_
    · rintro i σ H' hi ⟨rfl, u, rfl⟩
      have hi : i < n := by omega
      have hd := s1 _ _ hdg
      have hs := s1 _ _ hst
      have e0 : (0 : Int) + (i : Int) = (i : Int) := Int.zero_add _
      have e1 : (i : Int) + 1 = ((i + 1 : Nat) : Int) := by omega
      have a1 : atI (stV p N) (0 + (i : Int)) = some (.bl (was p i)) := by rw [e0]; exact stV_at (by omega)
      have a2 : atI (stV p N) (0 + (i : Int) + 1) = some (.bl (Th.onn p i)) := by rw [e0, e1]; exact stV_at (by omega)
      have a3 : atI (dgV p N) (0 + (i : Int)) = some (.int (Th.deg p i)) := by rw [e0]; exact dgV_at (by omega)
      have er : rg p (i + 1) = rgS (was p i) (Th.onn p i) (Th.deg p i) (rg p i) := rfl
      generalize rg p i = r at er ⊢
      generalize was p i = b at a1 er
      generalize Th.onn p i = c at a2 er
      refine ⟨_, rfl, _, rfl, st, _, _, _, rfl, rfl, SqL.of hs, a1, _, rfl, ?_⟩
      cases b with
      | true =>
        refine ifT rfl ?_
        refine ⟨_, rfl, _, rfl, _, _, rfl, rfl, st, _, _, _, rfl, rfl, SqL.of hs, a2, _, rfl, ?_⟩
        cases c with
        | true =>
          refine ifT rfl ?_
          refine ⟨_, rfl, _, rfl, _, rfl, dg, _, _, _, rfl, rfl, SqL.of hd, a3, _, _, rfl, rfl, some (.int (0 + (i : Int))), ?_⟩
          rw [er]; rfl
        | false =>
          refine ifF rfl ?_
          refine ⟨_, rfl, _, rfl, st, _, _, _, rfl, rfl, SqL.of hs, a1, _, rfl, ifT rfl ?_⟩
          refine ⟨_, rfl, _, rfl, _, rfl, dg, _, _, _, rfl, rfl, SqL.of hd, a3, _, _, rfl, rfl, _, _, rfl, rfl, some (.int (0 + (i : Int))), ?_⟩
          rw [er]; rfl
      | false =>
        refine ifF rfl ?_
        refine ifF rfl ?_
        refine ⟨_, rfl, _, rfl, st, _, _, _, rfl, rfl, SqL.of hs, a1, _, rfl, ifF rfl ?_⟩
        refine ⟨_, rfl, _, rfl, _, _, rfl, rfl, st, _, _, _, rfl, rfl, SqL.of hs, a2, _, rfl, ?_⟩
        cases c with
        | true =>
          refine ifT rfl ?_
          refine ⟨_, rfl, _, rfl, _, rfl, dg, _, _, _, rfl, rfl, SqL.of hd, a3, _, _, rfl, rfl, _, _, rfl, rfl, some (.int (0 + (i : Int))), ?_⟩
          rw [er]; rfl
        | false =>
          refine ifF rfl ?_
          refine ⟨_, rfl, _, rfl, _, rfl, dg, _, _, _, rfl, rfl, SqL.of hd, a3, _, _, rfl, rfl, some (.int (0 + (i : Int))), ?_⟩
          rw [er]; rfl
    · rintro σ H' ⟨rfl, u, rfl⟩
      rw [show ((n : Int)).toNat = n by omega]
      refine ⟨_, rfl, _, rfl, by show 2 ≤ sizeLine; decide, fun x nx => ⟨_, rfl, _, rfl, by show 2 ≤ sizeLine; decide, fun y ny => ⟨by show 2 ≤ sizeLine; decide, fun z nz => ?_⟩⟩⟩
      have s2 := same_upd (o := .tup [.int (rg p n).l0, .int (rg p n).l1]) nx
      have s3 := same_upd (o := .tup [.int (rg p n).h0, .int (rg p n).h1]) ny
      have s4 := same_upd (o := .lst [.ref x, .ref y]) nz
      exact k z x y _ (((s1.trans s2).trans s3).trans s4) upd_same ((s3.trans s4) _ _ upd_same) (s4 _ _ upd_same)
end
end W6

namespace W6
open PySem PySem.Spec PyProof.Rows L2 Ru StX
section
variable {P : Program} {w : World} {K : PySem.W.Frag} {mg : Str → Option Value} {base : Heap} {a : Ad}
def spEr : Sp := fun vs H Q _ => ∃ (tc ts tl lo hi : Addr) (p : Th.Par) (n : Nat), vs = [.ref tc, .ref ts, .ref tl, .int ((n : Int) - 1), .ref lo, .ref hi] ∧ 1 ≤ p.ch.length ∧ 1 ≤ p.g ∧ p.g ≤ 200 ∧ n ≤ 1000 ∧ p.lo ≤ p.hi ∧ -1000000000000 ≤ p.lo ∧ p.hi ≤ 1000000000000 ∧ H tc = some (.tup (p.ch.map V.int)) ∧ H ts = some (.tup [.int p.g, .int p.lo, .int p.hi, .int p.st, .bl p.on0]) ∧
  H tl = some (.lst ((tkI (mvs p n)).map V.int)) ∧ H lo = some (.tup [.int (rg p n).l0, .int (rg p n).l1]) ∧ H hi = some (.tup [.int (rg p n).h0, .int (rg p n).h1]) ∧ ∀ H', Same H H' → Q (.bl true) H'
def pLo (p : Th.Par) (b : Int) : Th.Par := { p with lo := b }
def pHi (p : Th.Par) (b : Int) : Th.Par := { p with hi := b }
/-- an end of a range -/
def EndOk (p : Th.Par) (n : Nat) (q : Int → Th.Par) (b : Int) (g : Bool) : Prop := (q b).lo ≤ (q b).hi → b < 1000000000000 → -1000000000000 < b → decide (mvs (q b) n = mvs p n) = g
theorem endsL {p : Th.Par} {n : Nat} (ok : p.lo ≤ p.hi) (a0 : -1000000000000 ≤ p.lo) (b1 : p.hi ≤ 1000000000000) : EndOk p n (pLo p) (rg p n).l0 true ∧ EndOk p n (pLo p) (rg p n).l1 true ∧ EndOk p n (pLo p) ((rg p n).l0 - 1) false ∧ EndOk p n (pLo p) ((rg p n).l1 + 1) false := by
  obtain ⟨f1, f2, f3, f4⟩ := (fit_rg (p := p) ok a0 (by omega) (by omega) b1 n).mp (fit_self p n)
  have key : ∀ b : Int, b ≤ p.hi → b < 1000000000000 → -1000000000000 < b → (mvs (pLo p b) n = mvs p n ↔ InR (rg p n) b p.hi) := fun b h h1 h2 => agree (p := p) (q := pLo p b) ⟨rfl, rfl, rfl, rfl⟩ h (by show -1000000000000 ≤ b; omega) (by show b ≤ 1000000000000; omega) (by show -1000000000000 ≤ p.hi; omega) b1 n
  refine ⟨fun (h : (rg p n).l0 ≤ p.hi) h1 h2 => decide_eq_true ((key _ h h1 h2).mpr ⟨Int.le_refl _, by omega, f3, f4⟩), fun (h : (rg p n).l1 ≤ p.hi) h1 h2 => decide_eq_true ((key _ h h1 h2).mpr ⟨by omega, Int.le_refl _, f3, f4⟩), fun (h : (rg p n).l0 - 1 ≤ p.hi) h1 h2 => decide_eq_false fun e => ?_, fun (h : (rg p n).l1 + 1 ≤ p.hi) h1 h2 => decide_eq_false fun e => ?_⟩
  · have := ((key _ h h1 h2).mp e).1
    omega
  · have := ((key _ h h1 h2).mp e).2.1
    omega
theorem endsH {p : Th.Par} {n : Nat} (ok : p.lo ≤ p.hi) (a0 : -1000000000000 ≤ p.lo) (b1 : p.hi ≤ 1000000000000) : EndOk p n (pHi p) (rg p n).h0 true ∧ EndOk p n (pHi p) (rg p n).h1 true ∧ EndOk p n (pHi p) ((rg p n).h0 - 1) false ∧ EndOk p n (pHi p) ((rg p n).h1 + 1) false := by
  obtain ⟨f1, f2, f3, f4⟩ := (fit_rg (p := p) ok a0 (by omega) (by omega) b1 n).mp (fit_self p n)
  have key : ∀ b : Int, p.lo ≤ b → b < 1000000000000 → -1000000000000 < b → (mvs (pHi p b) n = mvs p n ↔ InR (rg p n) p.lo b) := fun b h h1 h2 => agree (p := p) (q := pHi p b) ⟨rfl, rfl, rfl, rfl⟩ h a0 (by show p.lo ≤ 1000000000000; omega) (by show -1000000000000 ≤ b; omega) (by show b ≤ 1000000000000; omega) n
  refine ⟨fun (h : p.lo ≤ (rg p n).h0) h1 h2 => decide_eq_true ((key _ h h1 h2).mpr ⟨f1, f2, Int.le_refl _, by omega⟩), fun (h : p.lo ≤ (rg p n).h1) h1 h2 => decide_eq_true ((key _ h h1 h2).mpr ⟨f1, f2, by omega, Int.le_refl _⟩), fun (h : p.lo ≤ (rg p n).h0 - 1) h1 h2 => decide_eq_false fun e => ?_, fun (h : p.lo ≤ (rg p n).h1 + 1) h1 h2 => decide_eq_false fun e => ?_⟩
  · have := ((key _ h h1 h2).mp e).2.2.1
    omega
  · have := ((key _ h h1 h2).mp e).2.2.2
    omega
theorem at_new {H : Hp} {x : Addr} {o : HO} (h : H x = none) : Same H (upd H x o) ∧ upd H x o x = some o := ⟨same_upd h, upd_same⟩
set_option maxHeartbeats 0 in
theorem ok__law_ends_right (T : Txt K mg a) : FnOk P w K mg base CX0 3 a.f__law_ends_right a.d__law_ends_right ["_law_changes_here", "_law_setting_here", "_law_told_here", "_law_last", "_law_lows", "_law_highs"] spEr := by
  have G__law_agrees : FnOk P w K mg base CX0 2 a.f__law_agrees a.d__law_agrees ["_law_changes_here", "_law_setting_here", "_law_told_here", "_law_last"] spAg := ok__law_agrees T
  refine T.F__law_ends_right.ok sc__law_ends_right (fun vs H Q E h => ?_) (fun cdv A outer s H vs Q E hr h => ?_)
  · obtain ⟨tc, ts, tl, lo, hi, p, n, rfl, _⟩ := h
    rfl
  · obtain ⟨tc, ts, tl, lo, hi, p, n, rfl, n1, g1, g200, n3, ok, a0, b1, htc, hts, htl, hlo, hhi, k⟩ := h
    refine ⟨_, (pss_cons (ps_asg (pv 1) (pg_tup rfl (pgs_cons (pg_name (i := 6) sc__law_ends_right.nd rfl (Or.inl rfl)) (pgs_cons (pg_name (i := 7) sc__law_ends_right.nd rfl (Or.inl rfl)) (pgs_cons (pg_name (i := 8) sc__law_ends_right.nd rfl (Or.inl rfl)) (pgs_cons (pg_name (i := 9) sc__law_ends_right.nd rfl (Or.inl rfl)) (pgs_cons (pg_name (i := 10) sc__law_ends_right.nd rfl (Or.inl rfl)) pgs_nil)))))))
      (pss_cons (ps_for PassesOwn.never rfl (pi_tup (pe_tup (pa_cons (pe_tup (pa_cons (pe_ix (show IxR _ (rIxT K) from ix_tup) (pv 4) pe_int (fun _ _ => rfl)) (pa_cons pe_bl pa_nil))) (pa_cons (pe_tup (pa_cons (pe_ix (show IxR _ (rIxT K) from ix_tup) (pv 4) pe_int (fun _ _ => rfl)) (pa_cons pe_bl pa_nil))) (pa_cons (pe_tup (pa_cons (pe_op op_sub (pe_ix (show IxR _ (rIxT K) from ix_tup) (pv 4) pe_int (fun _ _ => rfl)) pe_int) (pa_cons pe_bl pa_nil))) (pa_cons (pe_tup (pa_cons (pe_op op_add (pe_ix (show IxR _ (rIxT K) from ix_tup) (pv 4) pe_int (fun _ _ => rfl)) pe_int) (pa_cons pe_bl pa_nil))) pa_nil)))))) (pg_tup rfl (pgs_cons (pg_name (i := 11) sc__law_ends_right.nd rfl (Or.inl rfl)) (pgs_cons (pg_name (i := 12) sc__law_ends_right.nd rfl (Or.inl rfl)) pgs_nil)))
        (pss_one (ps_if (PW.pt (pw_and (pt_cmpR op_lt (pe_callB call_abs (by rfl) T.z_abs (by decide +kernel) (pa_cons (pv 11) pa_nil)) (pe_op op_pow pe_int pe_int) (nomark _)) (pw_and1 (pt_cmpR op_le (pv 11) (pv 8) (nomark _))))) (pss_one (ps_if (pt_cmpR op_ne (pe_call G__law_agrees (hr.mono (by decide)) (by rfl) T.mg__law_agrees T.F__law_agrees.kp (b__law_agrees T) .nil pass0 (pa_cons (pv 0) (pa_cons (pe_tup (pa_cons (pv 6) (pa_cons (pv 11) (pa_cons (pv 8) (pa_cons (pv 9) (pa_cons (pv 10) pa_nil)))))) (pa_cons (pv 2) (pa_cons (pv 3) pa_nil))))) (pv 12) (nomark _)) (pss_one (ps_ret pe_bl)) pss_nil)) pss_nil)))
      (pss_cons (ps_for PassesOwn.never rfl (pi_tup (pe_tup (pa_cons (pe_tup (pa_cons (pe_ix (show IxR _ (rIxT K) from ix_tup) (pv 5) pe_int (fun _ _ => rfl)) (pa_cons pe_bl pa_nil))) (pa_cons (pe_tup (pa_cons (pe_ix (show IxR _ (rIxT K) from ix_tup) (pv 5) pe_int (fun _ _ => rfl)) (pa_cons pe_bl pa_nil))) (pa_cons (pe_tup (pa_cons (pe_op op_sub (pe_ix (show IxR _ (rIxT K) from ix_tup) (pv 5) pe_int (fun _ _ => rfl)) pe_int) (pa_cons pe_bl pa_nil))) (pa_cons (pe_tup (pa_cons (pe_op op_add (pe_ix (show IxR _ (rIxT K) from ix_tup) (pv 5) pe_int (fun _ _ => rfl)) pe_int) (pa_cons pe_bl pa_nil))) pa_nil)))))) (pg_tup rfl (pgs_cons (pg_name (i := 11) sc__law_ends_right.nd rfl (Or.inl rfl)) (pgs_cons (pg_name (i := 12) sc__law_ends_right.nd rfl (Or.inl rfl)) pgs_nil)))
        (pss_one (ps_if (PW.pt (pw_and (pt_cmpR op_lt (pe_callB call_abs (by rfl) T.z_abs (by decide +kernel) (pa_cons (pv 11) pa_nil)) (pe_op op_pow pe_int pe_int) (nomark _)) (pw_and1 (pt_cmpR op_ge (pv 11) (pv 7) (nomark _))))) (pss_one (ps_if (pt_cmpR op_ne (pe_call G__law_agrees (hr.mono (by decide)) (by rfl) T.mg__law_agrees T.F__law_agrees.kp (b__law_agrees T) .nil pass0 (pa_cons (pv 0) (pa_cons (pe_tup (pa_cons (pv 6) (pa_cons (pv 7) (pa_cons (pv 11) (pa_cons (pv 9) (pa_cons (pv 10) pa_nil)))))) (pa_cons (pv 2) (pa_cons (pv 3) pa_nil))))) (pv 12) (nomark _)) (pss_one (ps_ret pe_bl)) pss_nil)) pss_nil)))
      (pss_one (ps_ret pe_bl))))), ?_⟩
    have p12 : (10 : Int) ^ (12 : Int).toNat = 1000000000000 := by decide
    obtain ⟨e1, e2, e3, e4⟩ := endsL (p := p) (n := n) ok a0 b1
    obtain ⟨f1, f2, f3, f4⟩ := endsH (p := p) (n := n) ok a0 b1
    refine ⟨_, rfl, ts, _, rfl, SqT.of hts, rfl, _, _, rfl, _, _, rfl, _, _, rfl, _, _, rfl, _, _, rfl, rfl, ?_⟩
    have t0 : Same H H := Same.refl H
    refine ⟨_, rfl, lo, _, _, _, rfl, rfl, SqT.of (t0 _ _ hlo), rfl, by show 2 ≤ sizeLine; decide, fun q1 nq1 => ?_⟩
    have t1 := t0.trans (same_upd (o := .tup [.int (rg p n).l0, .bl true]) nq1)
    refine ⟨_, rfl, lo, _, _, _, rfl, rfl, SqT.of (t1 _ _ hlo), rfl, by show 2 ≤ sizeLine; decide, fun q2 nq2 => ?_⟩
    have t2 := same_upd (o := .tup [.int (rg p n).l1, .bl true]) nq2
    refine ⟨_, rfl, lo, _, _, _, rfl, rfl, SqT.of ((t1.trans t2) _ _ hlo), rfl, _, _, rfl, rfl, by show 2 ≤ sizeLine; decide, fun q3 nq3 => ?_⟩
    have t3 := same_upd (o := .tup [.int ((rg p n).l0 - 1), .bl false]) nq3
    refine ⟨_, rfl, lo, _, _, _, rfl, rfl, SqT.of ((t1.trans (t2.trans t3)) _ _ hlo), rfl, _, _, rfl, rfl, by show 2 ≤ sizeLine; decide, fun q4 nq4 => ⟨by show 4 ≤ sizeLine; decide, fun q nq => ?_⟩⟩
    have t4 := same_upd (o := .tup [.int ((rg p n).l1 + 1), .bl false]) nq4
    obtain ⟨t5, w5⟩ := at_new (o := .tup [.ref q1, .ref q2, .ref q3, .ref q4]) nq
    have w1 := (t2.trans (t3.trans (t4.trans t5))) _ _ upd_same
    have w2 := (t3.trans (t4.trans t5)) _ _ upd_same
    have w3 := (t4.trans t5) _ _ upd_same
    have w4 := t5 _ _ upd_same
    have t6 := t1.trans (t2.trans (t3.trans (t4.trans t5)))
    generalize upd (upd _ q4 _) q _ = H1 at w1 w2 w3 w4 w5 t6 ⊢
    clear t0 t1 t2 t3 t4 t5 nq1 nq2 nq3 nq4 nq
    refine ⟨q, rfl, ⟨_, SqT.of w5⟩, for_tup (a := q) (xs := [.ref q1, .ref q2, .ref q3, .ref q4]) (fun i σ H' => Same H1 H' ∧ ∃ u v : Option V, σ = [some (.ref tc), some (.ref ts), some (.ref tl), some (.int ((n : Int) - 1)), some (.ref lo), some (.ref hi), some (.int p.g), some (.int p.lo), some (.int p.hi), some (.int p.st), some (.bl p.on0), u, v]) ⟨Same.refl _, none, none, rfl⟩ (fun i σ H' _ q => SqT.of (q.1 _ _ w5)) ?_ ?_⟩
    · rintro i x σ H' hx ⟨sm, u, v, rfl⟩
      obtain ⟨b, g, qa, rfl, hqa, ee⟩ : ∃ (b : Int) (g : Bool) (qa : Addr), x = .ref qa ∧ H1 qa = some (.tup [.int b, .bl g]) ∧ EndOk p n (pLo p) b g := by
        match i, hx with
        | 0, hx => cases hx; exact ⟨_, _, _, rfl, w1, e1⟩
        | 1, hx => cases hx; exact ⟨_, _, _, rfl, w2, e2⟩
        | 2, hx => cases hx; exact ⟨_, _, _, rfl, w3, e3⟩
        | 3, hx => cases hx; exact ⟨_, _, _, rfl, w4, e4⟩
      clear hx
      refine ⟨qa, _, rfl, SqT.of (sm _ _ hqa), rfl, _, _, rfl, _, _, rfl, rfl, ?_⟩
      have fin : ∀ H3, Same H' H3 → Same H1 H3 ∧ ∃ u v : Option V, [some (V.ref tc), some (.ref ts), some (.ref tl), some (.int ((n : Int) - 1)), some (.ref lo), some (.ref hi), some (.int p.g), some (.int p.lo), some (.int p.hi), some (.int p.st), some (.bl p.on0), some (.int b), some (.bl g)] = [some (.ref tc), some (.ref ts), some (.ref tl), some (.int ((n : Int) - 1)), some (.ref lo), some (.ref hi), some (.int p.g), some (.int p.lo), some (.int p.hi), some (.int p.st), some (.bl p.on0), u, v] := fun H3 s3 => ⟨sm.trans s3, _, _, rfl⟩
      refine ⟨_, rfl, b, rfl, 10, 12, rfl, rfl, ⟨by decide, by decide, by decide⟩, _, _, rfl, rfl, _, rfl, ?_⟩
      by_cases c1 : (if b < 0 then -b else b) < 10 ^ (12 : Int).toNat
      · refine ifT (dT c1) ?_
        rw [p12] at c1
        refine ⟨_, rfl, _, rfl, _, _, rfl, rfl, _, rfl, ?_⟩
        by_cases c2 : b ≤ p.hi
        · refine ifT (dT c2) ?_
          have hE := ee c2 (by split at c1 <;> omega) (by split at c1 <;> omega)
          refine ⟨_, rfl, _, rfl, _, rfl, _, rfl, _, rfl, _, rfl, by show 5 ≤ sizeLine; decide, fun ts2 nts2 => ⟨_, rfl, _, rfl, tc, ts2, tl, pLo p b, n, mvs p n, rfl, n1, g1, g200, n3, ?_⟩⟩
          have s2 := same_upd (o := .tup [.int p.g, .int b, .int p.hi, .int p.st, .bl p.on0]) nts2
          have s3 := (t6.trans sm).trans s2
          refine ⟨s3 _ _ htc, upd_same, s3 _ _ htl, fun H3 s4 => ⟨_, rfl, rfl, _, rfl, ?_⟩⟩
          refine ifF (by rw [hE]; show (!decide (V.bl g = V.bl g)) = false; rw [decide_eq_true rfl]; rfl) ?_
          exact fin H3 (s2.trans s4)
        · refine ifF (dF c2) ?_
          exact fin _ (Same.refl _)
      · refine ifF (dF c1) ?_
        exact ifF rfl (fin _ (Same.refl _))
    rintro σ H2 ⟨sm, u, v, rfl⟩
    have r0 : Same H H2 := t6.trans sm
    clear sm w1 w2 w3 w4 w5 t6

    refine ⟨_, rfl, hi, _, _, _, rfl, rfl, SqT.of (r0 _ _ hhi), rfl, by show 2 ≤ sizeLine; decide, fun x1 nx1 => ?_⟩
    have r1 := r0.trans (same_upd (o := .tup [.int (rg p n).h0, .bl true]) nx1)
    refine ⟨_, rfl, hi, _, _, _, rfl, rfl, SqT.of (r1 _ _ hhi), rfl, by show 2 ≤ sizeLine; decide, fun x2 nx2 => ?_⟩
    have r2 := same_upd (o := .tup [.int (rg p n).h1, .bl true]) nx2
    refine ⟨_, rfl, hi, _, _, _, rfl, rfl, SqT.of ((r1.trans r2) _ _ hhi), rfl, _, _, rfl, rfl, by show 2 ≤ sizeLine; decide, fun x3 nx3 => ?_⟩
    have r3 := same_upd (o := .tup [.int ((rg p n).h0 - 1), .bl false]) nx3
    refine ⟨_, rfl, hi, _, _, _, rfl, rfl, SqT.of ((r1.trans (r2.trans r3)) _ _ hhi), rfl, _, _, rfl, rfl, by show 2 ≤ sizeLine; decide, fun x4 nx4 => ⟨by show 4 ≤ sizeLine; decide, fun x nx => ?_⟩⟩
    have r4 := same_upd (o := .tup [.int ((rg p n).h1 + 1), .bl false]) nx4
    obtain ⟨r5, w5⟩ := at_new (o := .tup [.ref x1, .ref x2, .ref x3, .ref x4]) nx
    have w1 := (r2.trans (r3.trans (r4.trans r5))) _ _ upd_same
    have w2 := (r3.trans (r4.trans r5)) _ _ upd_same
    have w3 := (r4.trans r5) _ _ upd_same
    have w4 := r5 _ _ upd_same
    have r6 := r1.trans (r2.trans (r3.trans (r4.trans r5)))
    generalize upd (upd _ x4 _) x _ = H1 at w1 w2 w3 w4 w5 r6 ⊢
    clear r0 r1 r2 r3 r4 r5 nx1 nx2 nx3 nx4 nx
    refine ⟨x, rfl, ⟨_, SqT.of w5⟩, for_tup (a := x) (xs := [.ref x1, .ref x2, .ref x3, .ref x4]) (fun i σ H' => Same H1 H' ∧ ∃ u v : Option V, σ = [some (.ref tc), some (.ref ts), some (.ref tl), some (.int ((n : Int) - 1)), some (.ref lo), some (.ref hi), some (.int p.g), some (.int p.lo), some (.int p.hi), some (.int p.st), some (.bl p.on0), u, v]) ⟨Same.refl _, u, v, rfl⟩ (fun i σ H' _ q => SqT.of (q.1 _ _ w5)) ?_ ?_⟩
    · rintro i x σ H' hx ⟨sm, u, v, rfl⟩
      obtain ⟨b, g, qa, rfl, hqa, ee⟩ : ∃ (b : Int) (g : Bool) (qa : Addr), x = .ref qa ∧ H1 qa = some (.tup [.int b, .bl g]) ∧ EndOk p n (pHi p) b g := by
        match i, hx with
        | 0, hx => cases hx; exact ⟨_, _, _, rfl, w1, f1⟩
        | 1, hx => cases hx; exact ⟨_, _, _, rfl, w2, f2⟩
        | 2, hx => cases hx; exact ⟨_, _, _, rfl, w3, f3⟩
        | 3, hx => cases hx; exact ⟨_, _, _, rfl, w4, f4⟩
      clear hx
      refine ⟨qa, _, rfl, SqT.of (sm _ _ hqa), rfl, _, _, rfl, _, _, rfl, rfl, ?_⟩
      have fin : ∀ H3, Same H' H3 → Same H1 H3 ∧ ∃ u v : Option V, [some (V.ref tc), some (.ref ts), some (.ref tl), some (.int ((n : Int) - 1)), some (.ref lo), some (.ref hi), some (.int p.g), some (.int p.lo), some (.int p.hi), some (.int p.st), some (.bl p.on0), some (.int b), some (.bl g)] = [some (.ref tc), some (.ref ts), some (.ref tl), some (.int ((n : Int) - 1)), some (.ref lo), some (.ref hi), some (.int p.g), some (.int p.lo), some (.int p.hi), some (.int p.st), some (.bl p.on0), u, v] := fun H3 s3 => ⟨sm.trans s3, _, _, rfl⟩
      refine ⟨_, rfl, b, rfl, 10, 12, rfl, rfl, ⟨by decide, by decide, by decide⟩, _, _, rfl, rfl, _, rfl, ?_⟩
      by_cases c1 : (if b < 0 then -b else b) < 10 ^ (12 : Int).toNat
      · refine ifT (dT c1) ?_
        rw [p12] at c1
        refine ⟨_, rfl, _, rfl, _, _, rfl, rfl, _, rfl, ?_⟩
        by_cases c2 : p.lo ≤ b
        · refine ifT (dT c2) ?_
          have hE := ee c2 (by split at c1 <;> omega) (by split at c1 <;> omega)
          refine ⟨_, rfl, _, rfl, _, rfl, _, rfl, _, rfl, _, rfl, by show 5 ≤ sizeLine; decide, fun ts2 nts2 => ⟨_, rfl, _, rfl, tc, ts2, tl, pHi p b, n, mvs p n, rfl, n1, g1, g200, n3, ?_⟩⟩
          have s2 := same_upd (o := .tup [.int p.g, .int p.lo, .int b, .int p.st, .bl p.on0]) nts2
          have s3 := (r6.trans sm).trans s2
          refine ⟨s3 _ _ htc, upd_same, s3 _ _ htl, fun H3 s4 => ⟨_, rfl, rfl, _, rfl, ?_⟩⟩
          refine ifF (by rw [hE]; show (!decide (V.bl g = V.bl g)) = false; rw [decide_eq_true rfl]; rfl) ?_
          exact fin H3 (s2.trans s4)
        · refine ifF (dF c2) ?_
          exact fin _ (Same.refl _)
      · refine ifF (dF c1) ?_
        exact ifF rfl (fin _ (Same.refl _))
    rintro σ H2 ⟨sm, u, v, rfl⟩
    have y0 : Same H H2 := r6.trans sm
    clear sm w1 w2 w3 w4 w5 r6
    exact k _ y0
end
end W6

namespace W6
open PySem PySem.Spec PyProof.Rows L2 Ru StX
def Fl (u v : V) : Prop := u = v ∧ ((∃ n : Int, u = .int n) ∨ (∃ b : Bool, u = .bl b) ∨ (∃ s : Str, u = .str s) ∨ u = .non)
def Sq1 (R : V → V → Hp → Prop) (H : Hp) (xs ys : List V) : Prop := xs.length = ys.length ∧ xs.length ≤ 1000000 ∧ ∀ (i : Nat) (u v : V), xs[i]? = some u → ys[i]? = some v → R u v H
def AS (R : V → V → Hp → Prop) (u v : V) (H : Hp) : Prop := Fl u v ∨ ∃ (x y : Addr) (xs ys : List V), u = .ref x ∧ v = .ref y ∧ Sq1 R H xs ys ∧ ((H x = some (.lst xs) ∧ H y = some (.lst ys)) ∨ (H x = some (.tup xs) ∧ H y = some (.tup ys)))
def R0 (u v : V) (_ : Hp) : Prop := Fl u v
def R1 : V → V → Hp → Prop := AS R0
def R2 : V → V → Hp → Prop := AS R1
theorem Sq1.same {R : V → V → Hp → Prop} (m : ∀ u v H H', R u v H → Same H H' → R u v H') {H H' : Hp} {xs ys : List V} (h : Sq1 R H xs ys) (s : Same H H') : Sq1 R H' xs ys := ⟨h.1, h.2.1, fun i u v hu hv => m _ _ _ _ (h.2.2 i u v hu hv) s⟩
theorem AS.same {R : V → V → Hp → Prop} (m : ∀ u v H H', R u v H → Same H H' → R u v H') (u v : V) (H H' : Hp) (h : AS R u v H) (s : Same H H') : AS R u v H' := by
  rcases h with h | ⟨x, y, xs, ys, e1, e2, q, h⟩
  · exact .inl h
  · refine .inr ⟨x, y, xs, ys, e1, e2, q.same m s, ?_⟩
    rcases h with ⟨h1, h2⟩ | ⟨h1, h2⟩
    · exact .inl ⟨s _ _ h1, s _ _ h2⟩
    · exact .inr ⟨s _ _ h1, s _ _ h2⟩
theorem R0.mono : ∀ u v H H', R0 u v H → Same H H' → R0 u v H' := fun _ _ _ _ h _ => h
theorem R1.mono : ∀ u v H H', R1 u v H → Same H H' → R1 u v H' := AS.same R0.mono
def spAk (R : V → V → Hp → Prop) : Sp := fun vs H Q _ => ∃ u v, vs = [u, v] ∧ R u v H ∧ ∀ H', Same H H' → Q (.bl true) H'
section
variable {P : Program} {w : World} {K : PySem.W.Frag} {mg : Str → Option Value} {base : Heap} {a : Ad}
theorem kitN' {s : String} (h1 : kitB s "tuple" = some false) (h2 : kitB s "list" = some false) : PySem.W.kitAny K (.type s) [.type "tuple", .type "list"] = some false := by
  unfold PySem.W.kitAny
  rw [kit_ty h1]
  unfold PySem.W.kitAny
  rw [kit_ty h2]
  try rfl
theorem kitTup' : PySem.W.kitAny K (.type "tuple") [.type "tuple", .type "list"] = some true := by
  unfold PySem.W.kitAny
  rw [kit_ty (r := true) (by decide +kernel)]
  try rfl
theorem kitLst' : PySem.W.kitAny K (.type "list") [.type "tuple", .type "list"] = some true := by
  unfold PySem.W.kitAny
  rw [kit_ty (r := false) (by decide +kernel)]
  unfold PySem.W.kitAny
  rw [kit_ty (r := true) (by decide +kernel)]
  try rfl
theorem alikeF (T : Txt K mg a) : FnOk P w K mg base CX0 1 a.f__law_alike a.d__law_alike ["_law_found", "_law_due"] (spAk R0) := by
  refine T.F__law_alike.ok sc__law_alike (fun vs H Q E h => ?_) (fun cdv A outer s H vs Q E hr h => ?_)
  · obtain ⟨u, v, rfl, _⟩ := h
    rfl
  · obtain ⟨u, v, rfl, f, k⟩ := h
    revert f
    intro f
    obtain ⟨rfl, ⟨c, rfl⟩ | ⟨b, rfl⟩ | ⟨s0, rfl⟩ | rfl⟩ := f
    · refine ⟨_, (pss_cons (ps_if (pt_val (pe_callB call_isi (by rfl) T.z_isinstance (by decide +kernel) (pa_cons (pv 1) (pa_cons (pe_bltn (v := .ty "dict") (by rfl) T.z_dict (by decide +kernel) rfl) pa_nil)))) (pss_one ps_never) pss_nil)
      (pss_cons (ps_if (pt_val (pe_callB call_isiT (by rfl) T.z_isinstance (by decide +kernel) (pa_cons (pv 1) (pa_cons (pe_tup (pa_cons (pe_bltn (v := .ty "tuple") (by rfl) T.z_tuple (by decide +kernel) rfl) (pa_cons (pe_bltn (v := .ty "list") (by rfl) T.z_list (by decide +kernel) rfl) pa_nil))) pa_nil)))) (pss_cons ps_never (pss_cons ps_never (pss_one ps_never))) pss_nil)
      (pss_cons (ps_if (PW.pt (pw_or (pt_cmpR op_isN (pv 1) pe_non (nomark _)) (pw_or1 (pt_val (pe_callB call_isi (by rfl) T.z_isinstance (by decide +kernel) (pa_cons (pv 1) (pa_cons (pe_bltn (v := .ty "str") (by rfl) T.z_str (by decide +kernel) rfl) pa_nil))))))) (pss_one ps_never) pss_nil)
      (pss_one (ps_ret (pe_and (pe_callB call_isi (by rfl) T.z_isinstance (by decide +kernel) (pa_cons (pv 0) (pa_cons (pe_bltn (v := .ty "int") (by rfl) T.z_int (by decide +kernel) rfl) pa_nil))) (pe_and (pe_cmpR op_eq (pe_callB call_isi (by rfl) T.z_isinstance (by decide +kernel) (pa_cons (pv 0) (pa_cons (pe_bltn (v := .ty "bool") (by rfl) T.z_bool (by decide +kernel) rfl) pa_nil))) (pe_callB call_isi (by rfl) T.z_isinstance (by decide +kernel) (pa_cons (pv 1) (pa_cons (pe_bltn (v := .ty "bool") (by rfl) T.z_bool (by decide +kernel) rfl) pa_nil))) (nomark _)) (pe_one (pe_cmpR op_eq (pv 0) (pv 1) (nomark _)))))))))), ?_⟩
      refine ⟨_, rfl, .int c, .ty "dict", .type "int", .type "dict", false, rfl, .ty _, .base (.int c), kit_ty (by decide +kernel), _, rfl, ?_⟩
      refine ifF rfl ?_
      refine ⟨_, rfl, by show 2 ≤ sizeLine; decide, fun tp ntp => ?_⟩
      have s1 := same_upd (o := .tup [.ty "tuple", .ty "list"]) ntp
      refine ⟨.int c, tp, [.ty "tuple", .ty "list"], .type "int", [.type "tuple", .type "list"], false, rfl, upd_same, .cons (.ty _) (.cons (.ty _) .nil), .base (.int c), kitN' (by decide +kernel) (by decide +kernel), _, rfl, ?_⟩
      refine ifF rfl ?_
      refine ⟨_, rfl, rfl, _, rfl, ?_⟩
      refine ifF rfl ?_
      refine ⟨_, rfl, .int c, .ty "str", .type "int", .type "str", false, rfl, .ty _, .base (.int c), kit_ty (by decide +kernel), _, rfl, ?_⟩
      refine ifF rfl ?_
      refine ⟨_, rfl, .int c, .ty "int", .type "int", .type "int", true, rfl, .ty _, .base (.int c), kit_ty (by decide +kernel), true, rfl, ?_⟩
      refine ifT rfl ?_
      refine ⟨_, rfl, .int c, .ty "bool", .type "int", .type "bool", false, rfl, .ty _, .base (.int c), kit_ty (by decide +kernel), ?_⟩
      refine ⟨_, rfl, .int c, .ty "bool", .type "int", .type "bool", false, rfl, .ty _, .base (.int c), kit_ty (by decide +kernel), rfl, true, congrArg V.bl (dT rfl), ?_⟩
      refine ifT rfl ?_
      refine ⟨_, rfl, _, rfl, rfl, ?_⟩
      rw [show (decide (V.int c = V.int c)) = true from decide_eq_true rfl]
      exact k _ s1
    · refine ⟨_, (pss_cons (ps_if (pt_val (pe_callB call_isi (by rfl) T.z_isinstance (by decide +kernel) (pa_cons (pv 1) (pa_cons (pe_bltn (v := .ty "dict") (by rfl) T.z_dict (by decide +kernel) rfl) pa_nil)))) (pss_one ps_never) pss_nil)
      (pss_cons (ps_if (pt_val (pe_callB call_isiT (by rfl) T.z_isinstance (by decide +kernel) (pa_cons (pv 1) (pa_cons (pe_tup (pa_cons (pe_bltn (v := .ty "tuple") (by rfl) T.z_tuple (by decide +kernel) rfl) (pa_cons (pe_bltn (v := .ty "list") (by rfl) T.z_list (by decide +kernel) rfl) pa_nil))) pa_nil)))) (pss_cons ps_never (pss_cons ps_never (pss_one ps_never))) pss_nil)
      (pss_cons (ps_if (PW.pt (pw_or (pt_cmpR op_isN (pv 1) pe_non (nomark _)) (pw_or1 (pt_val (pe_callB call_isi (by rfl) T.z_isinstance (by decide +kernel) (pa_cons (pv 1) (pa_cons (pe_bltn (v := .ty "str") (by rfl) T.z_str (by decide +kernel) rfl) pa_nil))))))) (pss_one ps_never) pss_nil)
      (pss_one (ps_ret (pe_and (pe_callB call_isi (by rfl) T.z_isinstance (by decide +kernel) (pa_cons (pv 0) (pa_cons (pe_bltn (v := .ty "int") (by rfl) T.z_int (by decide +kernel) rfl) pa_nil))) (pe_and (pe_cmpR op_eq (pe_callB call_isi (by rfl) T.z_isinstance (by decide +kernel) (pa_cons (pv 0) (pa_cons (pe_bltn (v := .ty "bool") (by rfl) T.z_bool (by decide +kernel) rfl) pa_nil))) (pe_callB call_isi (by rfl) T.z_isinstance (by decide +kernel) (pa_cons (pv 1) (pa_cons (pe_bltn (v := .ty "bool") (by rfl) T.z_bool (by decide +kernel) rfl) pa_nil))) (nomark _)) (pe_one (pe_cmpR op_eq (pv 0) (pv 1) (nomark _)))))))))), ?_⟩
      refine ⟨_, rfl, .bl b, .ty "dict", .type "bool", .type "dict", false, rfl, .ty _, .base (.bl b), kit_ty (by decide +kernel), _, rfl, ?_⟩
      refine ifF rfl ?_
      refine ⟨_, rfl, by show 2 ≤ sizeLine; decide, fun tp ntp => ?_⟩
      have s1 := same_upd (o := .tup [.ty "tuple", .ty "list"]) ntp
      refine ⟨.bl b, tp, [.ty "tuple", .ty "list"], .type "bool", [.type "tuple", .type "list"], false, rfl, upd_same, .cons (.ty _) (.cons (.ty _) .nil), .base (.bl b), kitN' (by decide +kernel) (by decide +kernel), _, rfl, ?_⟩
      refine ifF rfl ?_
      refine ⟨_, rfl, rfl, _, rfl, ?_⟩
      refine ifF rfl ?_
      refine ⟨_, rfl, .bl b, .ty "str", .type "bool", .type "str", false, rfl, .ty _, .base (.bl b), kit_ty (by decide +kernel), _, rfl, ?_⟩
      refine ifF rfl ?_
      refine ⟨_, rfl, .bl b, .ty "int", .type "bool", .type "int", true, rfl, .ty _, .base (.bl b), kit_ty (by decide +kernel), true, rfl, ?_⟩
      refine ifT rfl ?_
      refine ⟨_, rfl, .bl b, .ty "bool", .type "bool", .type "bool", true, rfl, .ty _, .base (.bl b), kit_ty (by decide +kernel), ?_⟩
      refine ⟨_, rfl, .bl b, .ty "bool", .type "bool", .type "bool", true, rfl, .ty _, .base (.bl b), kit_ty (by decide +kernel), rfl, true, congrArg V.bl (dT rfl), ?_⟩
      refine ifT rfl ?_
      refine ⟨_, rfl, _, rfl, rfl, ?_⟩
      rw [show (decide (V.bl b = V.bl b)) = true from decide_eq_true rfl]
      exact k _ s1
    · refine ⟨_, (pss_cons (ps_if (pt_val (pe_callB call_isi (by rfl) T.z_isinstance (by decide +kernel) (pa_cons (pv 1) (pa_cons (pe_bltn (v := .ty "dict") (by rfl) T.z_dict (by decide +kernel) rfl) pa_nil)))) (pss_one ps_never) pss_nil)
      (pss_cons (ps_if (pt_val (pe_callB call_isiT (by rfl) T.z_isinstance (by decide +kernel) (pa_cons (pv 1) (pa_cons (pe_tup (pa_cons (pe_bltn (v := .ty "tuple") (by rfl) T.z_tuple (by decide +kernel) rfl) (pa_cons (pe_bltn (v := .ty "list") (by rfl) T.z_list (by decide +kernel) rfl) pa_nil))) pa_nil)))) (pss_cons ps_never (pss_cons ps_never (pss_one ps_never))) pss_nil)
      (pss_cons (ps_if (PW.pt (pw_or (pt_cmpR op_isN (pv 1) pe_non (nomark _)) (pw_or1 (pt_val (pe_callB call_isi (by rfl) T.z_isinstance (by decide +kernel) (pa_cons (pv 1) (pa_cons (pe_bltn (v := .ty "str") (by rfl) T.z_str (by decide +kernel) rfl) pa_nil))))))) (pss_one (ps_ret (pe_and (pe_cmpR op_eq (pv 0) (pv 1) (nomark _)) (pe_one (pe_cmpR op_eq (pe_callB call_isi (by rfl) T.z_isinstance (by decide +kernel) (pa_cons (pv 0) (pa_cons (pe_bltn (v := .ty "str") (by rfl) T.z_str (by decide +kernel) rfl) pa_nil))) (pe_callB call_isi (by rfl) T.z_isinstance (by decide +kernel) (pa_cons (pv 1) (pa_cons (pe_bltn (v := .ty "str") (by rfl) T.z_str (by decide +kernel) rfl) pa_nil))) (nomark _)))))) pss_nil)
      (pss_one (ps_ret (pe_and (pe_callB call_isi (by rfl) T.z_isinstance (by decide +kernel) (pa_cons (pv 0) (pa_cons (pe_bltn (v := .ty "int") (by rfl) T.z_int (by decide +kernel) rfl) pa_nil))) (pe_and (pe_cmpR op_eq (pe_callB call_isi (by rfl) T.z_isinstance (by decide +kernel) (pa_cons (pv 0) (pa_cons (pe_bltn (v := .ty "bool") (by rfl) T.z_bool (by decide +kernel) rfl) pa_nil))) (pe_callB call_isi (by rfl) T.z_isinstance (by decide +kernel) (pa_cons (pv 1) (pa_cons (pe_bltn (v := .ty "bool") (by rfl) T.z_bool (by decide +kernel) rfl) pa_nil))) (nomark _)) (pe_one (pe_cmpR op_eq (pv 0) (pv 1) (nomark _)))))))))), ?_⟩
      refine ⟨_, rfl, .str s0, .ty "dict", .type "str", .type "dict", false, rfl, .ty _, .base (.str s0), kit_ty (by decide +kernel), _, rfl, ?_⟩
      refine ifF rfl ?_
      refine ⟨_, rfl, by show 2 ≤ sizeLine; decide, fun tp ntp => ?_⟩
      have s1 := same_upd (o := .tup [.ty "tuple", .ty "list"]) ntp
      refine ⟨.str s0, tp, [.ty "tuple", .ty "list"], .type "str", [.type "tuple", .type "list"], false, rfl, upd_same, .cons (.ty _) (.cons (.ty _) .nil), .base (.str s0), kitN' (by decide +kernel) (by decide +kernel), _, rfl, ?_⟩
      refine ifF rfl ?_
      refine ⟨_, rfl, rfl, _, rfl, ?_⟩
      refine ifF rfl ?_
      refine ⟨_, rfl, .str s0, .ty "str", .type "str", .type "str", true, rfl, .ty _, .base (.str s0), kit_ty (by decide +kernel), _, rfl, ?_⟩
      refine ifT rfl ?_
      refine ⟨_, rfl, _, rfl, rfl, true, congrArg V.bl (dT rfl), ?_⟩
      refine ifT rfl ?_
      refine ⟨_, rfl, .str s0, .ty "str", .type "str", .type "str", true, rfl, .ty _, .base (.str s0), kit_ty (by decide +kernel), ?_⟩
      refine ⟨_, rfl, .str s0, .ty "str", .type "str", .type "str", true, rfl, .ty _, .base (.str s0), kit_ty (by decide +kernel), rfl, ?_⟩
      rw [show (decide (V.bl true = V.bl true)) = true from rfl]
      exact k _ s1
    · refine ⟨_, (pss_cons (ps_if (pt_val (pe_callB call_isi (by rfl) T.z_isinstance (by decide +kernel) (pa_cons (pv 1) (pa_cons (pe_bltn (v := .ty "dict") (by rfl) T.z_dict (by decide +kernel) rfl) pa_nil)))) (pss_one ps_never) pss_nil)
      (pss_cons (ps_if (pt_val (pe_callB call_isiT (by rfl) T.z_isinstance (by decide +kernel) (pa_cons (pv 1) (pa_cons (pe_tup (pa_cons (pe_bltn (v := .ty "tuple") (by rfl) T.z_tuple (by decide +kernel) rfl) (pa_cons (pe_bltn (v := .ty "list") (by rfl) T.z_list (by decide +kernel) rfl) pa_nil))) pa_nil)))) (pss_cons ps_never (pss_cons ps_never (pss_one ps_never))) pss_nil)
      (pss_cons (ps_if (PW.pt (pw_or (pt_cmpR op_isN (pv 1) pe_non (nomark _)) (pw_or1 (pt_val (pe_callB call_isi (by rfl) T.z_isinstance (by decide +kernel) (pa_cons (pv 1) (pa_cons (pe_bltn (v := .ty "str") (by rfl) T.z_str (by decide +kernel) rfl) pa_nil))))))) (pss_one (ps_ret (pe_and (pe_cmpR op_eq (pv 0) (pv 1) (nomark _)) (pe_one (pe_cmpR op_eq (pe_callB call_isi (by rfl) T.z_isinstance (by decide +kernel) (pa_cons (pv 0) (pa_cons (pe_bltn (v := .ty "str") (by rfl) T.z_str (by decide +kernel) rfl) pa_nil))) (pe_callB call_isi (by rfl) T.z_isinstance (by decide +kernel) (pa_cons (pv 1) (pa_cons (pe_bltn (v := .ty "str") (by rfl) T.z_str (by decide +kernel) rfl) pa_nil))) (nomark _)))))) pss_nil)
      (pss_one (ps_ret (pe_and (pe_callB call_isi (by rfl) T.z_isinstance (by decide +kernel) (pa_cons (pv 0) (pa_cons (pe_bltn (v := .ty "int") (by rfl) T.z_int (by decide +kernel) rfl) pa_nil))) (pe_and (pe_cmpR op_eq (pe_callB call_isi (by rfl) T.z_isinstance (by decide +kernel) (pa_cons (pv 0) (pa_cons (pe_bltn (v := .ty "bool") (by rfl) T.z_bool (by decide +kernel) rfl) pa_nil))) (pe_callB call_isi (by rfl) T.z_isinstance (by decide +kernel) (pa_cons (pv 1) (pa_cons (pe_bltn (v := .ty "bool") (by rfl) T.z_bool (by decide +kernel) rfl) pa_nil))) (nomark _)) (pe_one (pe_cmpR op_eq (pv 0) (pv 1) (nomark _)))))))))), ?_⟩
      refine ⟨_, rfl, .non, .ty "dict", .type "NoneType", .type "dict", false, rfl, .ty _, .base .non, kit_ty (by decide +kernel), _, rfl, ?_⟩
      refine ifF rfl ?_
      refine ⟨_, rfl, by show 2 ≤ sizeLine; decide, fun tp ntp => ?_⟩
      have s1 := same_upd (o := .tup [.ty "tuple", .ty "list"]) ntp
      refine ⟨.non, tp, [.ty "tuple", .ty "list"], .type "NoneType", [.type "tuple", .type "list"], false, rfl, upd_same, .cons (.ty _) (.cons (.ty _) .nil), .base .non, kitN' (by decide +kernel) (by decide +kernel), _, rfl, ?_⟩
      refine ifF rfl ?_
      refine ⟨_, rfl, rfl, _, rfl, ?_⟩
      refine ifT rfl ?_
      refine ifT rfl ?_
      refine ⟨_, rfl, _, rfl, rfl, true, congrArg V.bl (dT rfl), ?_⟩
      refine ifT rfl ?_
      refine ⟨_, rfl, .non, .ty "str", .type "NoneType", .type "str", false, rfl, .ty _, .base .non, kit_ty (by decide +kernel), ?_⟩
      refine ⟨_, rfl, .non, .ty "str", .type "NoneType", .type "str", false, rfl, .ty _, .base .non, kit_ty (by decide +kernel), rfl, ?_⟩
      rw [show (decide (V.bl false = V.bl false)) = true from rfl]
      exact k _ s1
def spSq (R : V → V → Hp → Prop) : Sp := fun vs H Q _ => ∃ (x y : Addr) (xs ys : List V), vs = [.ref x, .ref y] ∧ Sq1 R H xs ys ∧ ((H x = some (.lst xs) ∧ H y = some (.lst ys)) ∨ (H x = some (.tup xs) ∧ H y = some (.tup ys))) ∧ ∀ H', Same H H' → Q (.bl true) H'
set_option maxHeartbeats 0 in
theorem alikeQ {R : V → V → Hp → Prop} {k : Nat} (T : Txt K mg a) (m : ∀ u v H H', R u v H → Same H H' → R u v H') (G__law_alike : FnOk P w K mg base CX0 k a.f__law_alike a.d__law_alike ["_law_found", "_law_due"] (spAk R)) : FnOk P w K mg base CX0 (k + 1) a.f__law_alike a.d__law_alike ["_law_found", "_law_due"] (spSq R) := by
  refine T.F__law_alike.ok sc__law_alike (fun vs H Q E h => ?_) (fun cdv A outer s H vs Q E hr h => ?_)
  · obtain ⟨x, y, xs, ys, rfl, _⟩ := h
    rfl
  · obtain ⟨x, y, xs, ys, rfl, sq, hxy, k⟩ := h
    have lxy := sq.1
    have lle := sq.2.1
    rcases hxy with ⟨hx, hy⟩ | ⟨hx, hy⟩
    · refine ⟨_, (pss_cons (ps_if (pt_val (pe_callB call_isi (by rfl) T.z_isinstance (by decide +kernel) (pa_cons (pv 1) (pa_cons (pe_bltn (v := .ty "dict") (by rfl) T.z_dict (by decide +kernel) rfl) pa_nil)))) (pss_one ps_never) pss_nil)
      (pss_cons (ps_if (pt_val (pe_callB call_isiT (by rfl) T.z_isinstance (by decide +kernel) (pa_cons (pv 1) (pa_cons (pe_tup (pa_cons (pe_bltn (v := .ty "tuple") (by rfl) T.z_tuple (by decide +kernel) rfl) (pa_cons (pe_bltn (v := .ty "list") (by rfl) T.z_list (by decide +kernel) rfl) pa_nil))) pa_nil)))) (pss_cons (ps_if (PW.pt (pw_or (pt_not (pt_val (pe_callB call_isiT (by rfl) T.z_isinstance (by decide +kernel) (pa_cons (pv 0) (pa_cons (pe_tup (pa_cons (pe_bltn (v := .ty "tuple") (by rfl) T.z_tuple (by decide +kernel) rfl) (pa_cons (pe_bltn (v := .ty "list") (by rfl) T.z_list (by decide +kernel) rfl) pa_nil))) pa_nil))))) (pw_or1 (pt_cmpR op_ne (pe_callB call_isi (by rfl) T.z_isinstance (by decide +kernel) (pa_cons (pv 0) (pa_cons (pe_bltn (v := .ty "list") (by rfl) T.z_list (by decide +kernel) rfl) pa_nil))) (pe_callB call_isi (by rfl) T.z_isinstance (by decide +kernel) (pa_cons (pv 1) (pa_cons (pe_bltn (v := .ty "list") (by rfl) T.z_list (by decide +kernel) rfl) pa_nil))) (nomark _))))) (pss_one (ps_ret pe_bl)) pss_nil)
      (pss_cons (ps_if (pt_cmpR op_ne (pe_callB call_len_seq (by rfl) T.z_len PySem.boot_len (pa_cons (pv 0) pa_nil)) (pe_callB call_len_seq (by rfl) T.z_len PySem.boot_len (pa_cons (pv 1) pa_nil)) (nomark _)) (pss_one (ps_ret pe_bl)) pss_nil)
      (pss_one (ps_ret (pe_cmpR (op_eqD hr.units) (pe_lc (own := [("_law_k", 2)]) (g := gName 2) rfl sc__law_alike.nd (pi_range1 (by rfl) T.z_range (pa_cons (pe_callB call_len_seq (by rfl) T.z_len PySem.boot_len (pa_cons (pv 1) pa_nil)) pa_nil)) (blkOk_by (own := [("_law_k", 2)]) (N := ["_law_found", "_law_due", "_law_k"]) (sc := (defScope s__law_alike)) (by decide +kernel)) (fun _ _ _ _ _ => pg_name (i := 2) sc__law_alike.nd rfl (Or.inl rfl)) (fun _ _ _ _ _ => pts_one (pt_not (pt_val (pe_call G__law_alike (hr.mono (Nat.le_refl _)) (by rfl) T.mg__law_alike T.F__law_alike.kp (b__law_alike T) .nil pass0 (pa_cons (pe_ix (show IxR _ (rIxL K) from ix_list) (pv 0) (pv 2) (fun _ _ => rfl)) (pa_cons (pe_ix (show IxR _ (rIxL K) from ix_list) (pv 1) (pv 2) (fun _ _ => rfl)) pa_nil)))))) (fun _ _ _ _ _ => (pv 2))) (pe_lst pa_nil) (nomark _)))))) pss_nil)
      (pss_cons (ps_if (PW.pt (pw_or (pt_cmpR op_isN (pv 1) pe_non (nomark _)) (pw_or1 (pt_val (pe_callB call_isi (by rfl) T.z_isinstance (by decide +kernel) (pa_cons (pv 1) (pa_cons (pe_bltn (v := .ty "str") (by rfl) T.z_str (by decide +kernel) rfl) pa_nil))))))) (pss_one (ps_ret (pe_and (pe_cmpR op_eq (pv 0) (pv 1) (nomark _)) (pe_one (pe_cmpR op_eq (pe_callB call_isi (by rfl) T.z_isinstance (by decide +kernel) (pa_cons (pv 0) (pa_cons (pe_bltn (v := .ty "str") (by rfl) T.z_str (by decide +kernel) rfl) pa_nil))) (pe_callB call_isi (by rfl) T.z_isinstance (by decide +kernel) (pa_cons (pv 1) (pa_cons (pe_bltn (v := .ty "str") (by rfl) T.z_str (by decide +kernel) rfl) pa_nil))) (nomark _)))))) pss_nil)
      (pss_one (ps_ret (pe_and (pe_callB call_isi (by rfl) T.z_isinstance (by decide +kernel) (pa_cons (pv 0) (pa_cons (pe_bltn (v := .ty "int") (by rfl) T.z_int (by decide +kernel) rfl) pa_nil))) (pe_and (pe_cmpR op_eq (pe_callB call_isi (by rfl) T.z_isinstance (by decide +kernel) (pa_cons (pv 0) (pa_cons (pe_bltn (v := .ty "bool") (by rfl) T.z_bool (by decide +kernel) rfl) pa_nil))) (pe_callB call_isi (by rfl) T.z_isinstance (by decide +kernel) (pa_cons (pv 1) (pa_cons (pe_bltn (v := .ty "bool") (by rfl) T.z_bool (by decide +kernel) rfl) pa_nil))) (nomark _)) (pe_one (pe_cmpR op_eq (pv 0) (pv 1) (nomark _)))))))))), ?_⟩
      refine ⟨_, rfl, .ref y, .ty "dict", .type "list", .type "dict", false, rfl, .ty _, .base (.lst hy), kit_ty (by decide +kernel), _, rfl, ?_⟩
      refine ifF rfl ?_
      refine ⟨_, rfl, by show 2 ≤ sizeLine; decide, fun tp ntp => ?_⟩
      have s1 := same_upd (o := .tup [.ty "tuple", .ty "list"]) ntp
      refine ⟨.ref y, tp, [.ty "tuple", .ty "list"], .type "list", [.type "tuple", .type "list"], true, rfl, upd_same, .cons (.ty _) (.cons (.ty _) .nil), .base (.lst (s1 _ _ hy)), kitLst', _, rfl, ?_⟩
      refine ifT rfl ?_
      refine ⟨_, rfl, by show 2 ≤ sizeLine; decide, fun tp2 ntp2 => ?_⟩
      have s2 := same_upd (o := .tup [.ty "tuple", .ty "list"]) ntp2
      have s12 := s1.trans s2
      refine ⟨.ref x, tp2, [.ty "tuple", .ty "list"], .type "list", [.type "tuple", .type "list"], true, rfl, upd_same, .cons (.ty _) (.cons (.ty _) .nil), .base (.lst (s12 _ _ hx)), kitLst', ?_⟩
      refine ⟨_, rfl, ?_⟩
      refine ifF rfl ?_
      refine ⟨_, rfl, .ref x, .ty "list", .type "list", .type "list", true, rfl, .ty _, .base (.lst (s12 _ _ hx)), kit_ty (by decide +kernel), _, rfl, .ref y, .ty "list", .type "list", .type "list", true, rfl, .ty _, .base (.lst (s12 _ _ hy)), kit_ty (by decide +kernel), rfl, _, rfl, ?_⟩
      refine ifF rfl ?_
      refine ⟨_, rfl, x, _, rfl, .inl (SqL.of (s12 _ _ hx)), _, rfl, y, _, rfl, .inl (SqL.of (s12 _ _ hy)), rfl, _, rfl, ?_⟩
      refine ifF (by rw [sq.1]; show (!decide (V.int _ = V.int _)) = false; rw [decide_eq_true rfl]; rfl) ?_
      refine ⟨_, rfl, y, _, rfl, .inl (SqL.of (s12 _ _ hy)), (ys.length : Int), rfl, by omega, by omega, fun D hD => lc_range (lo := 0) (n := ((ys.length : Nat) : Int).toNat) (fun i H' => Same (upd (upd H tp (.tup [.ty "tuple", .ty "list"])) tp2 (.tup [.ty "tuple", .ty "list"])) H' ∧ H' D = some (.lst [])) ⟨same_upd hD, upd_same⟩ ?_ ?_⟩
      · rintro i H' hi ⟨sm, hD'⟩
        have hi : i < ys.length := by omega
        have hi2 : i < xs.length := by omega
        have sm12 := s12.trans sm
        have hu : xs[i]? = some xs[i] := List.getElem?_eq_getElem hi2
        have hv : ys[i]? = some ys[i] := List.getElem?_eq_getElem hi
        have ei : (0 : Int) + (i : Int) = (i : Int) := Int.zero_add _
        refine ⟨rfl, _, rfl, _, rfl, x, _, _, _, rfl, rfl, SqL.of (sm12 _ _ hx), by rw [ei]; exact atI_nat hu, _, rfl, _, rfl, y, _, _, _, rfl, rfl, SqL.of (sm12 _ _ hy), by rw [ei]; exact atI_nat hv, _, _, rfl, m _ _ _ _ (sq.2.2 i _ _ hu hv) sm12, fun H2 s2' => ?_⟩
        refine ⟨_, rfl, ?_⟩
        refine ifF rfl ?_
        exact ⟨sm.trans s2', s2' _ _ hD'⟩
      · rintro H' ⟨sm, hD'⟩
        refine ⟨Nat.zero_le _, fun q nq => ⟨.list [], .list [], .lst (SqL.of (same_upd nq _ _ hD')) .nil, .lst (SqL.of upd_same) .nil, rfl, rfl, ?_⟩⟩
        exact k _ ((s12.trans sm).trans (same_upd nq))
    · refine ⟨_, (pss_cons (ps_if (pt_val (pe_callB call_isi (by rfl) T.z_isinstance (by decide +kernel) (pa_cons (pv 1) (pa_cons (pe_bltn (v := .ty "dict") (by rfl) T.z_dict (by decide +kernel) rfl) pa_nil)))) (pss_one ps_never) pss_nil)
      (pss_cons (ps_if (pt_val (pe_callB call_isiT (by rfl) T.z_isinstance (by decide +kernel) (pa_cons (pv 1) (pa_cons (pe_tup (pa_cons (pe_bltn (v := .ty "tuple") (by rfl) T.z_tuple (by decide +kernel) rfl) (pa_cons (pe_bltn (v := .ty "list") (by rfl) T.z_list (by decide +kernel) rfl) pa_nil))) pa_nil)))) (pss_cons (ps_if (PW.pt (pw_or (pt_not (pt_val (pe_callB call_isiT (by rfl) T.z_isinstance (by decide +kernel) (pa_cons (pv 0) (pa_cons (pe_tup (pa_cons (pe_bltn (v := .ty "tuple") (by rfl) T.z_tuple (by decide +kernel) rfl) (pa_cons (pe_bltn (v := .ty "list") (by rfl) T.z_list (by decide +kernel) rfl) pa_nil))) pa_nil))))) (pw_or1 (pt_cmpR op_ne (pe_callB call_isi (by rfl) T.z_isinstance (by decide +kernel) (pa_cons (pv 0) (pa_cons (pe_bltn (v := .ty "list") (by rfl) T.z_list (by decide +kernel) rfl) pa_nil))) (pe_callB call_isi (by rfl) T.z_isinstance (by decide +kernel) (pa_cons (pv 1) (pa_cons (pe_bltn (v := .ty "list") (by rfl) T.z_list (by decide +kernel) rfl) pa_nil))) (nomark _))))) (pss_one (ps_ret pe_bl)) pss_nil)
      (pss_cons (ps_if (pt_cmpR op_ne (pe_callB call_len_seq (by rfl) T.z_len PySem.boot_len (pa_cons (pv 0) pa_nil)) (pe_callB call_len_seq (by rfl) T.z_len PySem.boot_len (pa_cons (pv 1) pa_nil)) (nomark _)) (pss_one (ps_ret pe_bl)) pss_nil)
      (pss_one (ps_ret (pe_cmpR (op_eqD hr.units) (pe_lc (own := [("_law_k", 2)]) (g := gName 2) rfl sc__law_alike.nd (pi_range1 (by rfl) T.z_range (pa_cons (pe_callB call_len_seq (by rfl) T.z_len PySem.boot_len (pa_cons (pv 1) pa_nil)) pa_nil)) (blkOk_by (own := [("_law_k", 2)]) (N := ["_law_found", "_law_due", "_law_k"]) (sc := (defScope s__law_alike)) (by decide +kernel)) (fun _ _ _ _ _ => pg_name (i := 2) sc__law_alike.nd rfl (Or.inl rfl)) (fun _ _ _ _ _ => pts_one (pt_not (pt_val (pe_call G__law_alike (hr.mono (Nat.le_refl _)) (by rfl) T.mg__law_alike T.F__law_alike.kp (b__law_alike T) .nil pass0 (pa_cons (pe_ix (show IxR _ (rIxT K) from ix_tup) (pv 0) (pv 2) (fun _ _ => rfl)) (pa_cons (pe_ix (show IxR _ (rIxT K) from ix_tup) (pv 1) (pv 2) (fun _ _ => rfl)) pa_nil)))))) (fun _ _ _ _ _ => (pv 2))) (pe_lst pa_nil) (nomark _)))))) pss_nil)
      (pss_cons (ps_if (PW.pt (pw_or (pt_cmpR op_isN (pv 1) pe_non (nomark _)) (pw_or1 (pt_val (pe_callB call_isi (by rfl) T.z_isinstance (by decide +kernel) (pa_cons (pv 1) (pa_cons (pe_bltn (v := .ty "str") (by rfl) T.z_str (by decide +kernel) rfl) pa_nil))))))) (pss_one (ps_ret (pe_and (pe_cmpR op_eq (pv 0) (pv 1) (nomark _)) (pe_one (pe_cmpR op_eq (pe_callB call_isi (by rfl) T.z_isinstance (by decide +kernel) (pa_cons (pv 0) (pa_cons (pe_bltn (v := .ty "str") (by rfl) T.z_str (by decide +kernel) rfl) pa_nil))) (pe_callB call_isi (by rfl) T.z_isinstance (by decide +kernel) (pa_cons (pv 1) (pa_cons (pe_bltn (v := .ty "str") (by rfl) T.z_str (by decide +kernel) rfl) pa_nil))) (nomark _)))))) pss_nil)
      (pss_one (ps_ret (pe_and (pe_callB call_isi (by rfl) T.z_isinstance (by decide +kernel) (pa_cons (pv 0) (pa_cons (pe_bltn (v := .ty "int") (by rfl) T.z_int (by decide +kernel) rfl) pa_nil))) (pe_and (pe_cmpR op_eq (pe_callB call_isi (by rfl) T.z_isinstance (by decide +kernel) (pa_cons (pv 0) (pa_cons (pe_bltn (v := .ty "bool") (by rfl) T.z_bool (by decide +kernel) rfl) pa_nil))) (pe_callB call_isi (by rfl) T.z_isinstance (by decide +kernel) (pa_cons (pv 1) (pa_cons (pe_bltn (v := .ty "bool") (by rfl) T.z_bool (by decide +kernel) rfl) pa_nil))) (nomark _)) (pe_one (pe_cmpR op_eq (pv 0) (pv 1) (nomark _)))))))))), ?_⟩
      refine ⟨_, rfl, .ref y, .ty "dict", .type "tuple", .type "dict", false, rfl, .ty _, .base (.tup hy), kit_ty (by decide +kernel), _, rfl, ?_⟩
      refine ifF rfl ?_
      refine ⟨_, rfl, by show 2 ≤ sizeLine; decide, fun tp ntp => ?_⟩
      have s1 := same_upd (o := .tup [.ty "tuple", .ty "list"]) ntp
      refine ⟨.ref y, tp, [.ty "tuple", .ty "list"], .type "tuple", [.type "tuple", .type "list"], true, rfl, upd_same, .cons (.ty _) (.cons (.ty _) .nil), .base (.tup (s1 _ _ hy)), kitTup', _, rfl, ?_⟩
      refine ifT rfl ?_
      refine ⟨_, rfl, by show 2 ≤ sizeLine; decide, fun tp2 ntp2 => ?_⟩
      have s2 := same_upd (o := .tup [.ty "tuple", .ty "list"]) ntp2
      have s12 := s1.trans s2
      refine ⟨.ref x, tp2, [.ty "tuple", .ty "list"], .type "tuple", [.type "tuple", .type "list"], true, rfl, upd_same, .cons (.ty _) (.cons (.ty _) .nil), .base (.tup (s12 _ _ hx)), kitTup', ?_⟩
      refine ⟨_, rfl, ?_⟩
      refine ifF rfl ?_
      refine ⟨_, rfl, .ref x, .ty "list", .type "tuple", .type "list", false, rfl, .ty _, .base (.tup (s12 _ _ hx)), kit_ty (by decide +kernel), _, rfl, .ref y, .ty "list", .type "tuple", .type "list", false, rfl, .ty _, .base (.tup (s12 _ _ hy)), kit_ty (by decide +kernel), rfl, _, rfl, ?_⟩
      refine ifF rfl ?_
      refine ⟨_, rfl, x, _, rfl, .inr (SqT.of (s12 _ _ hx)), _, rfl, y, _, rfl, .inr (SqT.of (s12 _ _ hy)), rfl, _, rfl, ?_⟩
      refine ifF (by rw [sq.1]; show (!decide (V.int _ = V.int _)) = false; rw [decide_eq_true rfl]; rfl) ?_
      refine ⟨_, rfl, y, _, rfl, .inr (SqT.of (s12 _ _ hy)), (ys.length : Int), rfl, by omega, by omega, fun D hD => lc_range (lo := 0) (n := ((ys.length : Nat) : Int).toNat) (fun i H' => Same (upd (upd H tp (.tup [.ty "tuple", .ty "list"])) tp2 (.tup [.ty "tuple", .ty "list"])) H' ∧ H' D = some (.lst [])) ⟨same_upd hD, upd_same⟩ ?_ ?_⟩
      · rintro i H' hi ⟨sm, hD'⟩
        have hi : i < ys.length := by omega
        have hi2 : i < xs.length := by omega
        have sm12 := s12.trans sm
        have hu : xs[i]? = some xs[i] := List.getElem?_eq_getElem hi2
        have hv : ys[i]? = some ys[i] := List.getElem?_eq_getElem hi
        have ei : (0 : Int) + (i : Int) = (i : Int) := Int.zero_add _
        refine ⟨rfl, _, rfl, _, rfl, x, _, _, _, rfl, rfl, SqT.of (sm12 _ _ hx), by rw [ei]; exact atI_nat hu, _, rfl, _, rfl, y, _, _, _, rfl, rfl, SqT.of (sm12 _ _ hy), by rw [ei]; exact atI_nat hv, _, _, rfl, m _ _ _ _ (sq.2.2 i _ _ hu hv) sm12, fun H2 s2' => ?_⟩
        refine ⟨_, rfl, ?_⟩
        refine ifF rfl ?_
        exact ⟨sm.trans s2', s2' _ _ hD'⟩
      · rintro H' ⟨sm, hD'⟩
        refine ⟨Nat.zero_le _, fun q nq => ⟨.list [], .list [], .lst (SqL.of (same_upd nq _ _ hD')) .nil, .lst (SqL.of upd_same) .nil, rfl, rfl, ?_⟩⟩
        exact k _ ((s12.trans sm).trans (same_upd nq))
theorem alikeS {R : V → V → Hp → Prop} {k : Nat} (T : Txt K mg a) (m : ∀ u v H H', R u v H → Same H H' → R u v H') (G : FnOk P w K mg base CX0 k a.f__law_alike a.d__law_alike ["_law_found", "_law_due"] (spAk R)) : FnOk P w K mg base CX0 (k + 1) a.f__law_alike a.d__law_alike ["_law_found", "_law_due"] (spAk (AS R)) :=
  (fnOr ((alikeF T).mono (Nat.le_add_left 1 k)) (alikeQ T m G)).imp fun vs H Q E h => by
    obtain ⟨u, v, e, f | ⟨x, y, xs, ys, rfl, rfl, sq, hxy⟩, g⟩ := h
    · exact .inl ⟨u, v, e, f, g⟩
    · exact .inr ⟨x, y, xs, ys, e, sq, hxy, g⟩
theorem alike1 (T : Txt K mg a) : FnOk P w K mg base CX0 2 a.f__law_alike a.d__law_alike ["_law_found", "_law_due"] (spAk R1) := alikeS T R0.mono (alikeF T)
theorem alike2 (T : Txt K mg a) : FnOk P w K mg base CX0 3 a.f__law_alike a.d__law_alike ["_law_found", "_law_due"] (spAk R2) := alikeS T R1.mono (alike1 T)
end
/-! what is alike -/
theorem Fl.int (n : Int) : Fl (.int n) (.int n) := ⟨rfl, .inl ⟨n, rfl⟩⟩
theorem Fl.bl (b : Bool) : Fl (.bl b) (.bl b) := ⟨rfl, .inr (.inl ⟨b, rfl⟩)⟩
theorem Fl.str (s : Str) : Fl (.str s) (.str s) := ⟨rfl, .inr (.inr (.inl ⟨s, rfl⟩))⟩
theorem Fl.non : Fl .non .non := ⟨rfl, .inr (.inr (.inr rfl))⟩
theorem Sq1.nil {R : V → V → Hp → Prop} {H : Hp} : Sq1 R H [] [] := ⟨rfl, by decide, fun i u v h => by simp at h⟩
theorem Sq1.cons {R : V → V → Hp → Prop} {H : Hp} {u v : V} {xs ys : List V} (h : R u v H) (q : Sq1 R H xs ys) (l : xs.length < 1000000) : Sq1 R H (u :: xs) (v :: ys) := ⟨by rw [List.length_cons, List.length_cons, q.1], by rw [List.length_cons]; omega, fun i u' v' a b => match i, a, b with
  | 0, a, b => by cases a; cases b; exact h
  | i + 1, a, b => q.2.2 i u' v' a b⟩
theorem Sq1.ints {H : Hp} {ns : List Int} (l : ns.length ≤ 1000000) : Sq1 R0 H (ns.map V.int) (ns.map V.int) := ⟨rfl, by rw [List.length_map]; exact l, fun i u v a b => by
  rw [a] at b; cases b
  rw [List.getElem?_map] at a
  cases e : ns[i]? with
  | none => rw [e] at a; cases a
  | some n => rw [e] at a; cases a; exact Fl.int n⟩
end W6

namespace W6
open PySem PySem.Spec PyProof.Rows L2 Ru StX LamX
section
variable {P : Program} {w : World} {K : PySem.W.Frag} {mg : Str → Option Value} {base : Heap} {a : Ad} {er : Er}
theorem lists_of {H : Hp} {x y : Addr} (h : LH H x y) : ∀ q ∈ [x, y], ∃ xs, H q = some (.lst xs) := fun q hq => by
  obtain ⟨m, i, cs, h1, h2, _⟩ := h
  simp only [List.mem_cons, List.not_mem_nil, or_false] at hq
  rcases hq with rfl | rfl
  · exact ⟨_, h1⟩
  · exact ⟨_, h2⟩
theorem seq_if {c : TT} {A u : TS} {D : Ends} {σ : L2.St} {H : Hp} (C : L2.St → Hp → Prop) (h1 : ∀ D' : Ends, (∀ σ H, C σ H → D'.nx σ H) → tIfS c A tNext D' σ H) (h2 : ∀ σ H, C σ H → u D σ H) : tSeq (tIfS c A tNext) u D σ H := h1 _ h2
theorem g_if {i : Nat} {v : V} {c : TT} {A u : TS} {D : Ends} {σ : L2.St} {H : Hp} (C : L2.St → Hp → Prop) (h1 : ∀ D' : Ends, (∀ σ H, C σ H → D'.nx σ H) → tIfS c A tNext D' (σ.set i (some v)) H) (h2 : ∀ σ H, C σ H → u D σ H) : gName i v σ H (tSeq (tIfS c A tNext) u D) := h1 _ h2
theorem g_asg {i : Nat} {v : V} {te : TE} {g : TG} {u : TS} {D : Ends} {σ : L2.St} {H : Hp} (C : V → Hp → Prop) (h1 : ∀ Q7 : VK, (∀ w H', C w H' → Q7 w H') → te (σ.set i (some v)) H Q7) (h2 : ∀ w H', C w H' → g w (σ.set i (some v)) H' (u D)) : gName i v σ H (tSeq (tAsg te g) u D) := h1 _ h2
theorem seq_asg {te : TE} {g : TG} {u : TS} {D : Ends} {σ : L2.St} {H : Hp} (C : V → Hp → Prop) (h1 : ∀ Q7 : VK, (∀ w H', C w H' → Q7 w H') → te σ H Q7) (h2 : ∀ w H', C w H' → g w σ H' (u D)) : tSeq (tAsg te g) u D σ H := h1 _ h2
theorem extCut {H H' : Hp} {S : List Addr} (e : ExtN H H') : ExtN (cut H S) (cut H' S) := fun b o h n => by
  by_cases m : b ∈ S
  · rw [cut_at m] at h; cases h
  · rw [cut_in m] at h ⊢
    exact e b o h n
theorem cut_nil {H : Hp} : cut H [] = H := by
  funext b
  exact cut_in (by simp)
theorem mix_nil {H H0 : Hp} : mix [] H H0 = H0 := by
  funext b
  exact mix_out (by simp)
theorem keepCut {H H' : Hp} {x y : Addr} (k : Keep x y H H') : Same (cut H [x, y]) (cut H' [x, y]) := fun b o e => by
  by_cases m : b ∈ [x, y]
  · rw [cut_at m] at e; cases e
  · rw [cut_in m] at e ⊢
    simp only [List.mem_cons, List.not_mem_nil, or_false, not_or] at m
    exact k b o m.1 m.2 e
theorem LH.mix {H H0 : Hp} {x y : Addr} (h : LH H x y) : LH (mix [x, y] H H0) x y := by
  obtain ⟨m, i, cs, h1, h2, r⟩ := h
  exact ⟨m, i, cs, by rw [mix_in (by simp)]; exact h1, by rw [mix_in (by simp)]; exact h2, r⟩
theorem cut_nl {H : Hp} {S : List Addr} (l : ∀ y ∈ S, ∃ xs, H y = some (.lst xs)) {b : Addr} {o : HO} (h : H b = some o) (n : ∀ xs, o ≠ .lst xs) : cut H S b = some o := by
  rw [cut_in fun m => ?_]
  · exact h
  · obtain ⟨ys, e⟩ := l b m
    rw [h] at e
    exact n _ (Option.some.inj e)
theorem cut_off {H : Hp} {x y b : Addr} {o : HO} (h : cut H [x, y] b = some o) : b ≠ x ∧ b ≠ y := by
  constructor
  · rintro rfl
    rw [cut_at (by simp)] at h; cases h
  · rintro rfl
    rw [cut_at (by simp)] at h; cases h
theorem pow12 : (10 : Int) ^ (12 : Int).toNat = 1000000000000 := by decide
theorem pow18 : (10 : Int) ^ (18 : Int).toNat = 1000000000000000000 := by decide
/-- what is kept through a call of a lambda -/
theorem sameExt {H H' : Hp} (s : Same H H') : ExtN H H' := fun b o e _ => s b o e
theorem DAt.ext {H H' : Hp} {z : Addr} {cs : List Int} {g : Int} (h : DAt a H z cs g) (f : ExtN H H') : DAt a H' z cs g := by
  obtain ⟨⟨c, g0, g1⟩, dd, l, hz, hl⟩ := h
  exact ⟨⟨c, g0, g1⟩, dd, l, f _ _ hz (fun _ q => nomatch q), f _ _ hl (fun _ q => nomatch q)⟩
theorem SAt.ext {H H' : Hp} {z : Addr} {cs : List Int} {g base : Int} {on : Bool} {b : Nat} (h : SAt a H z cs g on b base) (f : ExtN H H') : SAt a H' z cs g on b base := by
  obtain ⟨dd, td, d, hz, ⟨d0, d1, ht, D0, D1⟩, D⟩ := h
  exact ⟨dd, td, d, f _ _ hz (fun _ q => nomatch q), ⟨d0, d1, f _ _ ht (fun _ q => nomatch q), D0.ext f, D1.ext f⟩, D.ext f⟩
theorem tnext {D : Ends} {σ : L2.St} {H : Hp} (h : D.nx σ H) : tNext D σ H := h
theorem seq_par {ta : TA} {i j : Nat} {u : TS} {D : Ends} {σ : L2.St} {H : Hp} (C : V → V → Hp → Prop) (h1 : ∀ Q7 : List V → Hp → Prop, (∀ v w H', C v w H' → Q7 [v, w] H') → ta σ H Q7) (h2 : ∀ v w H', C v w H' → u D ((σ.set i (some v)).set j (some w)) H') : tSeq (tPar i j ta) u D σ H :=
  h1 (fun vs H1 => ∃ v w, vs = [v, w] ∧ u D ((σ.set i (some v)).set j (some w)) H1) fun v w H' c => ⟨v, w, rfl, h2 v w H' c⟩
theorem keepStep {H H' : Hp} {x y D : Addr} {o : HO} (hD : H D = none) (k : Keep x y H H') : Keep x y H (upd H' D o) := fun b u n1 n2 e => by
  rw [upd_ne (ne_of_none e hD)]; exact k b u n1 n2 e
theorem LH.updD {H : Hp} {x y D : Addr} {o : HO} (h : LH H x y) (n1 : D ≠ x) (n2 : D ≠ y) : LH (upd H D o) x y := by
  obtain ⟨m, i, cs, h1, h2, r⟩ := h
  exact ⟨m, i, cs, by rw [upd_ne (Ne.symm n1)]; exact h1, by rw [upd_ne (Ne.symm n2)]; exact h2, r⟩
theorem pickI {es : List Int} {r : Int} (h0 : 0 ≤ r) (h1 : r < (es.length : Int)) : ∃ e, e ∈ es ∧ atI (es.map V.int) r = some (.int e) := by
  obtain ⟨n, rfl⟩ : ∃ n : Nat, r = n := ⟨r.toNat, by omega⟩
  have hn : n < es.length := by omega
  exact ⟨es[n], List.getElem_mem hn, atI_nat (by rw [List.getElem?_map, List.getElem?_eq_getElem hn]; rfl)⟩
theorem seq_ife {c : TT} {A B u : TS} {D : Ends} {σ : L2.St} {H : Hp} (C : L2.St → Hp → Prop) (h1 : ∀ D' : Ends, (∀ σ H, C σ H → D'.nx σ H) → tIfS c A B D' σ H) (h2 : ∀ σ H, C σ H → u D σ H) : tSeq (tIfS c A B) u D σ H := h1 _ h2
theorem WAt.cut {H : Hp} {S : List Addr} {z : Addr} {cs : List Int} (h : WAt a H z cs) (l : ∀ y ∈ S, ∃ xs, H y = some (.lst xs)) : WAt a (cut H S) z cs := by
  obtain ⟨dw, tw, w1, w2⟩ := h
  exact ⟨dw, tw, cut_nl l w1 (fun _ z => nomatch z), cut_nl l w2 (fun _ z => nomatch z)⟩
theorem WAt.keep {H H' : Hp} {x y : Addr} {z : Addr} {cs : List Int} (h : WAt a H z cs) (lh : LH H x y) (k : Keep x y H H') : WAt a H' z cs := by
  obtain ⟨dw, tw, w1, w2⟩ := h
  obtain ⟨m, i, es, h1, h2, _⟩ := lh
  exact ⟨dw, tw, k _ _ (ne_of w1 h1 (fun z => nomatch z)) (ne_of w1 h2 (fun z => nomatch z)) w1, k _ _ (ne_of w2 h1 (fun z => nomatch z)) (ne_of w2 h2 (fun z => nomatch z)) w2⟩
theorem WAt.ext {H H' : Hp} {z : Addr} {cs : List Int} (h : WAt a H z cs) (e : ExtN H H') : WAt a H' z cs := by
  obtain ⟨dw, tw, w1, w2⟩ := h
  exact ⟨dw, tw, e _ _ w1 (fun _ z => nomatch z), e _ _ w2 (fun _ z => nomatch z)⟩
theorem dl_two {H : Hp} {p q D : Addr} {r t : List V} (hp : H p = some (.tup r)) (hq : H q = some (.tup t)) (hD : H D = some (.lst [.ref p, .ref q])) : DL H D [r, t] := ⟨[p, q], hD, rfl, fun m u v a b => match m, a, b with | 0, a, b => by cases a; cases b; exact hp | 1, a, b => by cases a; cases b; exact hq⟩
theorem dl_rep {H : Hp} {p D : Addr} {r : List V} {n : Nat} (hp : H p = some (.tup r)) (hD : H D = some (.lst (List.replicate n (.ref p)))) : DL H D (List.replicate n r) := ⟨List.replicate n p, by rw [List.map_replicate]; exact hD, by rw [List.length_replicate, List.length_replicate], fun m u v a b => by
  have h1 := List.mem_of_getElem? a
  have h2 := List.mem_of_getElem? b
  rw [List.mem_replicate] at h1 h2
  rw [h1.2, h2.2]; exact hp⟩
theorem if_op {r : L2.R2} {te tr : TE} {A B : TS} {D : Ends} {σ : L2.St} {H : Hp} (h : te σ H fun x H1 => tr σ H1 fun y H2 => r x y H2 fun v H3 => ∃ b, v = .bl b ∧ if b = true then A D σ H3 else B D σ H3) : tIfS (tTest (tOp r te tr)) A B D σ H := h
theorem g_ifop {i : Nat} {v : V} {r : L2.R2} {te tr : TE} {A B : TS} {D : Ends} {σ : L2.St} {H : Hp} (h : te (σ.set i (some v)) H fun x H1 => tr (σ.set i (some v)) H1 fun y H2 => r x y H2 fun w H3 => ∃ b, w = .bl b ∧ if b = true then A D (σ.set i (some v)) H3 else B D (σ.set i (some v)) H3) : gName i v σ H (tIfS (tTest (tOp r te tr)) A B D) := h
theorem g_unf {i : Nat} {v : V} {te : TE} {g : TG} {u : TS} {D : Ends} {σ : L2.St} {H : Hp} (h : te (σ.set i (some v)) H fun w H' => g w (σ.set i (some v)) H' (u D)) : gName i v σ H (tSeq (tAsg te g) u D) := h
theorem seq_unf {te : TE} {g : TG} {u : TS} {D : Ends} {σ : L2.St} {H : Hp} (h : te σ H fun w H' => g w σ H' (u D)) : tSeq (tAsg te g) u D σ H := h
theorem g_seq {i : Nat} {v : V} {s u : TS} {D : Ends} {σ : L2.St} {H : Hp} (h : s { D with nx := u D } (σ.set i (some v)) H) : gName i v σ H (tSeq s u D) := h
theorem seq_ifop {r : L2.R2} {te tr : TE} {A B u : TS} {D : Ends} {σ : L2.St} {H : Hp} (h : te σ H fun x H1 => tr σ H1 fun y H2 => r x y H2 fun v H3 => ∃ b, v = .bl b ∧ if b = true then A { D with nx := u D } σ H3 else B { D with nx := u D } σ H3) : tSeq (tIfS (tTest (tOp r te tr)) A B) u D σ H := h
theorem neD_rep {H : Hp} {D D2 : Addr} {r : List V} {n : Nat} {Q : VK} (h : DL H D (List.replicate n r)) (h2 : DL H D2 (List.replicate n r)) (o : r.all okV = true) (sh : SeqAt.shaped (pdL (List.replicate n r)) = true) (e : PyData.eqv (pdL (List.replicate n r)) (pdL (List.replicate n r)) = true) (q : Q (.bl false) H) : rNeD K (.ref D) (.ref D2) H Q := by
  have o' : ((List.replicate n r).all fun r => r.all okV) = true := List.all_eq_true.mpr fun z hz => by rw [(List.mem_replicate.mp hz).2]; exact o
  refine neD_DL h h2 o' o' sh sh ?_
  rw [e]; exact q
theorem lcStep {H1 H4 : Hp} {D : Addr} {o : HO} (hD : H1 D = none) (s : Same H1 H4) : Same H1 (upd H4 D o) := fun b u e => by rw [upd_ne (ne_of_none e hD)]; exact s _ _ e
theorem ndF {x y : V} (h : x = y) : (!decide (x = y)) = false := by rw [dT h]; rfl
theorem small1000 {n : Nat} (h : n ≤ 1000) : n < sizeLine := Nat.lt_of_le_of_lt h (by decide)
theorem tabs_fr2 {Tb : List (Addr × Str)} {H H' : Hp} {x ac C dx : Addr} {fs : List (Str × V)} {xs : List V} (hx : H x = some (.ins C dx fs)) (ha : H ac = some (.lst xs)) (f : Fr2 x ac H H') (h : Tabs Tb H) : Tabs Tb H' := by
  have oth : ∀ {b : Addr} {o : HO}, H b = some o → (∀ xs, o ≠ .lst xs) → (∀ C dx fs, o ≠ .ins C dx fs) → H' b = some o := fun {b o} e n1 n2 => f b o (fun q => by rw [q, hx] at e; exact n2 _ _ _ (Option.some.inj e).symm) (fun q => by rw [q, ha] at e; exact n1 _ (Option.some.inj e).symm) e
  intro q hq
  obtain ⟨ps, a1, a2, a3⟩ := h q hq
  refine ⟨ps, oth a1 (fun _ z => nomatch z) (fun _ _ _ z => nomatch z), a2, fun pos cv hc => ?_⟩
  obtain ⟨c, e1, e2⟩ := a3 pos cv hc
  exact ⟨c, e1, oth e2 (fun _ z => nomatch z) (fun _ _ _ z => nomatch z)⟩
theorem LH.fr2 {H H' : Hp} {x y u ac C dx : Addr} {fs : List (Str × V)} (h : LH H x y) (hu : H u = some (.ins C dx fs)) (n1 : ac ≠ x) (n2 : ac ≠ y) (f : Fr2 u ac H H') : LH H' x y := by
  obtain ⟨m, i, cs, h1, h2, r⟩ := h
  exact ⟨m, i, cs, f _ _ (ne_of h1 hu (fun q => nomatch q)) (Ne.symm n1) h1, f _ _ (ne_of h2 hu (fun q => nomatch q)) (Ne.symm n2) h2, r⟩
theorem ObAt.ext {H H' : Hp} {x ac : Addr} {o : Ob} {rs : List Addr} (h : ObAt a H x ac o rs) (s : ExtN H H') : ObAt a H' x ac o rs := by
  obtain ⟨dx, u, lo, hi, hx, st, hl, hh, ha⟩ := h
  exact ⟨dx, u, lo, hi, s _ _ hx (fun _ q => nomatch q), st.ext s, s _ _ hl (fun _ q => nomatch q), s _ _ hh (fun _ q => nomatch q), s _ _ ha (fun _ q => nomatch q)⟩
end
end W6

namespace W6
open PySem PySem.Spec PyProof.Rows L2 Ru StX LamX
def lamT (Pt : Addr) : List (Addr × Str) := [(Pt, (("law" : Str) ++ ".<locals>.") ++ "<lambda>")]
def spLawE (K : PySem.W.Frag) (Pt : Addr) : Sp := fun vs H Q _ => ∃ (c : Addr) (ns : List Int), vs = [.ref c] ∧ SqL K H c (ns.map V.int) ∧ ns.length ≤ 63 ∧ Tabs (lamT Pt) H ∧ ∀ H', Q (.bl true) H'
/-! ### the switchings that lie ahead -/
def ahd (p : Th.Par) (n : Nat) : List Nat := (mvs p 120).filter fun t => decide (n ≤ t)
theorem ahd_mem {p : Th.Par} {n t : Nat} : t ∈ ahd p n ↔ t < 120 ∧ Mv p t = true ∧ n ≤ t := by
  unfold ahd mvs
  rw [List.mem_filter, List.mem_filter, List.mem_range, decide_eq_true_eq]
  exact ⟨fun ⟨⟨a, b⟩, c⟩ => ⟨a, b, c⟩, fun ⟨a, b, c⟩ => ⟨⟨a, b⟩, c⟩⟩
theorem ahd_nil {p : Th.Par} {n : Nat} (h : ahd p n = []) : ∀ u, n ≤ u → u < 120 → Mv p u = false := fun u a b => by
  cases e : Mv p u with
  | false => rfl
  | true =>
    have : u ∈ ahd p n := ahd_mem.mpr ⟨b, e, a⟩
    rw [h] at this
    cases this
theorem ahd_cons {p : Th.Par} {n m : Nat} {r : List Nat} (h : ahd p n = m :: r) : m < 120 ∧ Mv p m = true ∧ n ≤ m ∧ ∀ u, n ≤ u → u < m → Mv p u = false := by
  have hm := ahd_mem.mp (show m ∈ ahd p n by rw [h]; exact List.mem_cons_self ..)
  refine ⟨hm.1, hm.2.1, hm.2.2, fun u a b => ?_⟩
  cases e : Mv p u with
  | false => rfl
  | true =>
    have : u ∈ ahd p n := ahd_mem.mpr ⟨by omega, e, a⟩
    have pw : (ahd p n).Pairwise (· < ·) := (List.pairwise_lt_range.filter _).filter _
    rw [h] at this pw
    rcases List.mem_cons.mp this with rfl | q
    · omega
    · have := (List.pairwise_cons.mp pw).1 u q
      omega
theorem mvs_quiet {p : Th.Par} {n : Nat} : ∀ k : Nat, (∀ u, n ≤ u → u < n + k → Mv p u = false) → mvs p (n + k) = mvs p n
  | 0, _ => rfl
  | k + 1, h => by
    show mvs p (n + k + 1) = _
    rw [mvs_succ, if_neg (by rw [h (n + k) (by omega) (by omega)]; decide)]
    exact mvs_quiet k fun u a b => h u a (by omega)
/-! ### what the law keeps -/
/-- the records: as the observer has them, as the law has them -/
def RecAt (H : Hp) (R : Addr) (rs : List Addr) : Prop := ∃ qs : List Addr, H R = some (.lst (qs.map V.ref)) ∧ qs.length = rs.length ∧ ∀ (j : Nat) (r q : Addr), rs[j]? = some r → qs[j]? = some q → ∃ (s : Str) (t : Nat), H r = some (.tup [.str s, .int t]) ∧ H q = some (.tup [.str s, .int t])
/-- kept: all but the lists x, y of the draws and tables -/
def Gon (x y : Addr) (H H' : Hp) : Prop := ∀ b o, b ≠ x → b ≠ y → H b = some o → (∀ ps, o ≠ .tbl ps) → H' b = some o
theorem Gon.keep {x y : Addr} {H H' : Hp} (k : Keep x y H H') : Gon x y H H' := fun b o n1 n2 e _ => k b o n1 n2 e
theorem Gon.same {x y : Addr} {H H' : Hp} (k : Same H H') : Gon x y H H' := fun b o _ _ e _ => k b o e
theorem Gon.ext {x y : Addr} {H H' : Hp} (k : ExtN H H') : Gon x y H H' := fun b o _ _ e n => k b o e n
section
variable (a : Ad)
structure Wd (x y Pt tc ts dg L D TL R z ac : Addr) (p : Th.Par) (n : Nat) (o : Ob) (rs rs0 : List Addr) (H : Hp) : Prop where
  hlh : LH H x y
  htb : Tabs (lamT Pt) H
  htc : H tc = some (.tup (p.ch.map V.int))
  hts : H ts = some (.tup [.int p.g, .int p.lo, .int p.hi, .int p.st, .bl p.on0])
  hdg : H dg = some (.lst (dgV p 120))
  hst : H L = some (.lst (stV p 120))
  hmv : H D = some (.lst ((tkI (mvs p 120)).map V.int))
  htl : H TL = some (.lst ((tkI (mvs p n)).map V.int))
  hob : ObAt a (cut H [x, y, R]) z ac o rs
  hrc : RecAt H R rs0
  hoff : ∀ b ∈ [dg, L, D, TL], b ≠ x ∧ b ≠ y ∧ b ≠ ac ∧ b ≠ R
  hR : R ≠ x ∧ R ≠ y ∧ R ≠ ac
end
section
variable {a : Ad} {x y Pt tc ts dg L D TL R z ac : Addr} {p : Th.Par} {n : Nat} {o : Ob} {rs rs0 : List Addr} {H H' : Hp}
theorem lh_ne {b : Addr} {u : HO} (h : LH H x y) (e : H b = some u) (n : ∀ xs, u ≠ .lst xs) : b ≠ x ∧ b ≠ y := by
  obtain ⟨m, i, cs, h1, h2, _⟩ := h
  exact ⟨fun q => by rw [q, h1] at e; exact n _ (Option.some.inj e).symm, fun q => by rw [q, h2] at e; exact n _ (Option.some.inj e).symm⟩
theorem Wd.go (w : Wd a x y Pt tc ts dg L D TL R z ac p n o rs rs0 H) (g : Gon x y H H') (lh : LH H' x y) (tb : Tabs (lamT Pt) H') : Wd a x y Pt tc ts dg L D TL R z ac p n o rs rs0 H' := by
  have gt : ∀ {b : Addr} {xs : List V}, H b = some (.tup xs) → H' b = some (.tup xs) := fun {b xs} e => by
    obtain ⟨n1, n2⟩ := lh_ne w.hlh e (fun _ z => nomatch z)
    exact g b _ n1 n2 e (fun _ z => nomatch z)
  have gl : ∀ {b : Addr} {xs : List V}, b ∈ [dg, L, D, TL] → H b = some (.lst xs) → H' b = some (.lst xs) := fun {b xs} m e => g b _ (w.hoff b m).1 (w.hoff b m).2.1 e (fun _ z => nomatch z)
  refine ⟨lh, tb, gt w.htc, gt w.hts, gl (by simp) w.hdg, gl (by simp) w.hst, gl (by simp) w.hmv, gl (by simp) w.htl, w.hob.ext fun b u e nt => ?_, ?_, w.hoff, w.hR⟩
  · by_cases m : b ∈ [x, y, R]
    · rw [cut_at m] at e; cases e
    · rw [cut_in m] at e ⊢
      simp only [List.mem_cons, List.not_mem_nil, or_false, not_or] at m
      exact g b u m.1 m.2.1 e nt
  · obtain ⟨qs, h1, h2, h3⟩ := w.hrc
    refine ⟨qs, g _ _ w.hR.1 w.hR.2.1 h1 (fun _ z => nomatch z), h2, fun j r q e1 e2 => ?_⟩
    obtain ⟨s, t, f1, f2⟩ := h3 j r q e1 e2
    exact ⟨s, t, gt f1, gt f2⟩
theorem Wd.same (w : Wd a x y Pt tc ts dg L D TL R z ac p n o rs rs0 H) (s : Same H H') : Wd a x y Pt tc ts dg L D TL R z ac p n o rs rs0 H' := w.go (.same s) (w.hlh.same s) (w.htb.ext s)
theorem Wd.keep (w : Wd a x y Pt tc ts dg L D TL R z ac p n o rs rs0 H) (k : Keep x y H H') (lh : LH H' x y) : Wd a x y Pt tc ts dg L D TL R z ac p n o rs rs0 H' := w.go (.keep k) lh (tabs_keep w.hlh k w.htb)
theorem Wd.ext (w : Wd a x y Pt tc ts dg L D TL R z ac p n o rs rs0 H) (e : ExtN H H') (tb : Tabs (lamT Pt) H') : Wd a x y Pt tc ts dg L D TL R z ac p n o rs rs0 H' := w.go (.ext e) (w.hlh.ext e) tb
theorem cutMore {S S' : List Addr} (s : Same H H') (n : ∀ q ∈ S', q ∉ S → H q = none) : Same (cut H S) (cut H' S') := fun b u e => by
  by_cases m : b ∈ S
  · rw [cut_at m] at e; cases e
  · rw [cut_in m] at e
    by_cases m' : b ∈ S'
    · rw [n b m' m] at e; cases e
    · rw [cut_in m']; exact s b u e
theorem RecAt.snoc {r q : Addr} {s : Str} {t : Nat} (h : RecAt H R rs) (hR : ∀ b u, b ≠ R → H b = some u → H' b = some u) (hq : ∀ qs : List Addr, H R = some (.lst (qs.map V.ref)) → H' R = some (.lst (qs.map V.ref ++ [.ref q]))) (e1 : H' r = some (.tup [.str s, .int t])) (e2 : H' q = some (.tup [.str s, .int t])) : RecAt H' R (rs ++ [r]) := by
  obtain ⟨qs, h1, h2, h3⟩ := h
  have gt : ∀ {b : Addr} {xs : List V}, H b = some (.tup xs) → H' b = some (.tup xs) := fun {b xs} e => hR b _ (ne_of e h1 fun z => nomatch z) e
  refine ⟨qs ++ [q], by rw [hq qs h1, List.map_append]; rfl, by rw [List.length_append, List.length_append, h2]; rfl, fun j r' q' f1 f2 => ?_⟩
  by_cases lt : j < rs.length
  · rw [List.getElem?_append_left lt] at f1
    rw [List.getElem?_append_left (by omega)] at f2
    obtain ⟨s', t', g1, g2⟩ := h3 j r' q' f1 f2
    exact ⟨s', t', gt g1, gt g2⟩
  · rw [List.getElem?_append_right (by omega)] at f1 f2
    have j0 : j - rs.length = 0 := by
      cases hh : j - rs.length with
      | zero => rfl
      | succ z => rw [hh] at f1; simp at f1
    rw [j0] at f1
    rw [h2, j0] at f2
    cases f1; cases f2
    exact ⟨s, t, e1, e2⟩
structure Wx (a : Ad) (x y Pt tc ts dg L D TL R z ac A RS : Addr) (p : Th.Par) (n : Nat) (o : Ob) (rs rs0 : List Addr) (H : Hp) : Prop where
  w : Wd a x y Pt tc ts dg L D TL R z ac p n o rs rs0 H
  hA : H A = some (.lst ((tkI (ahd p n)).map V.int))
  hRS : H RS = some (.lst [])
  ob4 : ObAt a (cut H [x, y, R, RS]) z ac o rs
  oA : A ≠ x ∧ A ≠ y
  oRS : RS ≠ x ∧ RS ≠ y
  nR : RS ≠ R
  nL : ∀ b ∈ [dg, L, D, TL], b ≠ RS
variable {A RS : Addr}
theorem Wx.go (w : Wx a x y Pt tc ts dg L D TL R z ac A RS p n o rs rs0 H) (g : Gon x y H H') (lh : LH H' x y) (tb : Tabs (lamT Pt) H') : Wx a x y Pt tc ts dg L D TL R z ac A RS p n o rs rs0 H' := by
  refine ⟨w.w.go g lh tb, g _ _ w.oA.1 w.oA.2 w.hA (fun _ z => nomatch z), g _ _ w.oRS.1 w.oRS.2 w.hRS (fun _ z => nomatch z), w.ob4.ext fun b u e nt => ?_, w.oA, w.oRS, w.nR, w.nL⟩
  by_cases m : b ∈ [x, y, R, RS]
  · rw [cut_at m] at e; cases e
  · rw [cut_in m] at e ⊢
    simp only [List.mem_cons, List.not_mem_nil, or_false, not_or] at m
    exact g b u m.1 m.2.1 e nt
theorem Wx.same (w : Wx a x y Pt tc ts dg L D TL R z ac A RS p n o rs rs0 H) (s : Same H H') : Wx a x y Pt tc ts dg L D TL R z ac A RS p n o rs rs0 H' := w.go (.same s) (w.w.hlh.same s) (w.w.htb.ext s)
theorem Wx.keep (w : Wx a x y Pt tc ts dg L D TL R z ac A RS p n o rs rs0 H) (k : Keep x y H H') (lh : LH H' x y) : Wx a x y Pt tc ts dg L D TL R z ac A RS p n o rs rs0 H' := w.go (.keep k) lh (tabs_keep w.w.hlh k w.w.htb)
theorem Wx.ext (w : Wx a x y Pt tc ts dg L D TL R z ac A RS p n o rs rs0 H) (e : ExtN H H') (tb : Tabs (lamT Pt) H') : Wx a x y Pt tc ts dg L D TL R z ac A RS p n o rs rs0 H' := w.go (.ext e) (w.w.hlh.ext e) tb
/-- what is told next -/
def swN (sw : Bool) : Str := if sw then "switching" else "rest"
def EntOk (p : Th.Par) (n : Nat) (sw : Bool) (t : Nat) : Prop := n ≤ t ∧ t < 120 ∧ (sw = false → ∀ u, n ≤ u → u < t + 1 → Mv p u = false) ∧ (sw = true → Mv p t = true ∧ ∀ u, n ≤ u → u < t → Mv p u = false)
theorem Wd.snoc {r q : Addr} {s : Str} {t : Nat} {qs : List Addr} (w : Wd a x y Pt tc ts dg L D TL R z ac p n o rs rs0 H) (hR : H R = some (.lst (qs.map V.ref))) (hr : H r = some (.tup [.str s, .int t])) (hq : H q = some (.tup [.str s, .int t])) : Wd a x y Pt tc ts dg L D TL R z ac p n o rs (rs0 ++ [r]) (upd H R (.lst (qs.map V.ref ++ [.ref q]))) := by
  have gt : ∀ {b : Addr} {ys : List V}, H b = some (.tup ys) → upd H R (.lst (qs.map V.ref ++ [.ref q])) b = some (.tup ys) := fun {b ys} e => by rw [upd_ne (ne_of e hR (fun z => nomatch z))]; exact e
  have gl : ∀ {b : Addr} {ys : List V}, b ∈ [dg, L, D, TL] → H b = some (.lst ys) → upd H R (.lst (qs.map V.ref ++ [.ref q])) b = some (.lst ys) := fun {b ys} m e => by rw [upd_ne (w.hoff b m).2.2.2]; exact e
  refine ⟨w.hlh.updD w.hR.1 w.hR.2.1, tabs_extL w.htb (extL_upd hR), gt w.htc, gt w.hts, gl (by simp) w.hdg, gl (by simp) w.hst, gl (by simp) w.hmv, gl (by simp) w.htl, w.hob.same fun b v e => ?_, w.hrc.snoc (fun b u nb e => by rw [upd_ne nb]; exact e) (fun qs' e => by rw [hR] at e; rw [upd_same, Option.some.inj e |> HO.lst.inj]) (gt hr) (gt hq), w.hoff, w.hR⟩
  by_cases m : b ∈ [x, y, R]
  · rw [cut_at m] at e; cases e
  · rw [cut_in m] at e ⊢
    simp only [List.mem_cons, List.not_mem_nil, or_false, not_or] at m
    rw [upd_ne m.2.2]; exact e
theorem Wd.tell {TL' : Addr} {n' : Nat} (w : Wd a x y Pt tc ts dg L D TL R z ac p n o rs rs0 H) (h : H TL' = some (.lst ((tkI (mvs p n')).map V.int))) (f : TL' ≠ x ∧ TL' ≠ y ∧ TL' ≠ ac ∧ TL' ≠ R) : Wd a x y Pt tc ts dg L D TL' R z ac p n' o rs rs0 H :=
  ⟨w.hlh, w.htb, w.htc, w.hts, w.hdg, w.hst, w.hmv, h, w.hob, w.hrc, fun b m => by
    simp only [List.mem_cons, List.not_mem_nil, or_false] at m
    rcases m with rfl | rfl | rfl | rfl
    · exact w.hoff _ (by simp)
    · exact w.hoff _ (by simp)
    · exact w.hoff _ (by simp)
    · exact f, w.hR⟩
theorem told_next {sw : Bool} {t : Nat} (h : EntOk p n sw t) : (tkI (mvs p n)).map V.int ++ (List.replicate (if sw = true then (1 : Int) else 0).toNat [V.int (t : Int)]).flatten = (tkI (mvs p (t + 1))).map V.int := by
  obtain ⟨h1, h2, h3, h4⟩ := h
  obtain ⟨k, rfl⟩ : ∃ k, t = n + k := ⟨t - n, by omega⟩
  cases sw with
  | false =>
    have e := mvs_quiet (p := p) (n := n) (k + 1) (fun u a b => h3 rfl u a (by omega))
    rw [show n + k + 1 = n + (k + 1) from rfl, e]
    exact List.append_nil _
  | true =>
    obtain ⟨m, q⟩ := h4 rfl
    rw [mvs_succ, if_pos m, mvs_quiet k q, tkI_snoc, List.map_append]
    rfl
theorem te_any {te : TE} {σ : L2.St} {H : Hp} {Q : VK} (C : V → Hp → Prop) (h1 : ∀ Q7 : VK, (∀ v H, C v H → Q7 v H) → te σ H Q7) (h2 : ∀ v H, C v H → Q v H) : te σ H Q := h1 Q h2
theorem off3 {b : Addr} {u : HO} (lh : LH H x y) (hac : H ac = some u) (h : H b = none) : b ≠ x ∧ b ≠ y ∧ b ≠ ac := ⟨(lh.off h).1, (lh.off h).2, ne_of_none' hac h⟩
/-- after a report -/
theorem Wx.told {o' : Ob} {rs' : List Addr} {xs : List V} (w : Wx a x y Pt tc ts dg L D TL R z ac A RS p n o rs rs0 H) (fr : Fr2 z ac H H') (oa : ObAt a (cut H' [x, y, R, RS]) z ac o' rs') : Wd a x y Pt tc ts dg L D TL R z ac p n o' rs' rs0 (upd H' RS (.lst xs)) := by
  obtain ⟨dz, u, l1, h1, hz, _, _, _, hac⟩ := id w.ob4
  have hzH := cut_some hz
  have hacH := cut_some hac
  have nac : ∀ b ∈ [x, y, R, RS], b ≠ ac := fun b m e => by
    rw [e] at m
    rw [cut_at m] at hac; cases hac
  have lz : ∀ {b : Addr} {ys : List V}, H b = some (.lst ys) → b ≠ z := fun {b ys} e => ne_of e hzH (fun q => nomatch q)
  have gt : ∀ {b : Addr} {ys : List V}, H b = some (.tup ys) → upd H' RS (.lst xs) b = some (.tup ys) := fun {b ys} e => by
    rw [upd_ne (ne_of e w.hRS (fun q => nomatch q))]
    exact fr b _ (ne_of e hzH (fun q => nomatch q)) (ne_of e hacH (fun q => nomatch q)) e
  have gl : ∀ {b : Addr} {ys : List V}, b ≠ ac → b ≠ RS → H b = some (.lst ys) → upd H' RS (.lst xs) b = some (.lst ys) := fun {b ys} n1 n2 e => by
    rw [upd_ne n2]
    exact fr b _ (lz e) n1 e
  have gm : ∀ {b : Addr} {ys : List V}, b ∈ [dg, L, D, TL] → H b = some (.lst ys) → upd H' RS (.lst xs) b = some (.lst ys) := fun {b ys} m e => gl (w.w.hoff b m).2.2.1 (w.nL b m) e
  have lh' : LH (upd H' RS (.lst xs)) x y := by
    obtain ⟨m, i, cs, e1, e2, r⟩ := w.w.hlh
    exact ⟨m, i, cs, gl (nac x (by simp)) (Ne.symm w.oRS.1) e1, gl (nac y (by simp)) (Ne.symm w.oRS.2) e2, r⟩
  refine ⟨lh', (tabs_extL (tabs_fr2 hzH hacH fr w.w.htb) (extL_upd ((fr RS _ (lz w.hRS) (nac RS (by simp)) w.hRS)))), gt w.w.htc, gt w.w.hts, gm (by simp) w.w.hdg, gm (by simp) w.w.hst, gm (by simp) w.w.hmv, gm (by simp) w.w.htl, oa.same fun b v e => ?_, ?_, w.w.hoff, w.w.hR⟩
  · by_cases m : b ∈ [x, y, R, RS]
    · rw [cut_at m] at e; cases e
    · rw [cut_in m] at e
      simp only [List.mem_cons, List.not_mem_nil, or_false, not_or] at m
      rw [cut_in (by simp [m.1, m.2.1, m.2.2.1]), upd_ne m.2.2.2]
      exact e
  · obtain ⟨qs, e1, e2, e3⟩ := w.w.hrc
    refine ⟨qs, gl w.w.hR.2.2 (Ne.symm w.nR) e1, e2, fun j r q f1 f2 => ?_⟩
    obtain ⟨s, t, g1, g2⟩ := e3 j r q f1 f2
    exact ⟨s, t, gt g1, gt g2⟩
theorem recs_alike {l : Addr} (h : RecAt H R rs) (hl : H l = some (.lst (rs.map V.ref))) (z : rs.length ≤ 1000) : R2 (.ref l) (.ref R) H := by
  obtain ⟨qs, h1, h2, h3⟩ := h
  refine .inr ⟨l, R, rs.map V.ref, qs.map V.ref, rfl, rfl, ⟨by rw [List.length_map, List.length_map, h2], by rw [List.length_map]; omega, fun i u v a b => ?_⟩, .inl ⟨hl, h1⟩⟩
  rw [List.getElem?_map] at a b
  cases e1 : rs[i]? with
  | none => rw [e1] at a; cases a
  | some r =>
    cases e2 : qs[i]? with
    | none => rw [e2] at b; cases b
    | some q =>
      rw [e1] at a; rw [e2] at b
      cases a; cases b
      obtain ⟨s, t, f1, f2⟩ := h3 i r q e1 e2
      exact .inr ⟨r, q, _, _, rfl, rfl, .cons (Fl.str s) (.cons (Fl.int _) .nil (by simp)) (by simp), .inr ⟨f1, f2⟩⟩
theorem pair_alike {l m p1 p2 q1 q2 : Addr} {i1 i2 j1 j2 : Int} (hl : H l = some (.lst [.ref p1, .ref p2])) (hm : H m = some (.lst [.ref q1, .ref q2])) (a1 : H p1 = some (.tup [.int i1, .int i2])) (a2 : H p2 = some (.tup [.int j1, .int j2])) (b1 : H q1 = some (.tup [.int i1, .int i2])) (b2 : H q2 = some (.tup [.int j1, .int j2])) : R2 (.ref l) (.ref m) H :=
  .inr ⟨l, m, _, _, rfl, rfl, .cons (.inr ⟨p1, q1, _, _, rfl, rfl, .cons (Fl.int _) (.cons (Fl.int _) .nil (by simp)) (by simp), .inr ⟨a1, b1⟩⟩) (.cons (.inr ⟨p2, q2, _, _, rfl, rfl, .cons (Fl.int _) (.cons (Fl.int _) .nil (by simp)) (by simp), .inr ⟨a2, b2⟩⟩) .nil (by simp)) (by simp), .inl ⟨hl, hm⟩⟩
end
end W6

namespace W6
open PySem PySem.Spec PyProof.Rows L2 Ru StX LamX
section
variable (a : Ad) (er : Er)
def spSeX : Sp := fun vs H Q E => ∃ (x ac : Addr) (o : Ob) (rs : List Addr) (t : Int), vs = [.ref x, .int t] ∧ ObAt a H x ac o rs ∧ ¬ ((o.b : Int) ≤ t ∧ t ≤ 1000000000000000000) ∧ E (.ref (er.c 2)) none H
end
section
variable {P : Program} {w : World} {K : PySem.W.Frag} {mg : Str → Option Value} {base : Heap} {a : Ad} {er : Er}
theorem rx_ThresholdObserver_see_switching (T : Txt K mg a) (ER : ErT P K mg er) (EX : ErX K er) : FnOk P w K mg base (L2.CX P w) 2 a.f_ThresholdObserver_see_switching a.d_ThresholdObserver_see_switching ["self", "tick"] (spSeX a er) := by
  have Gx_check_number := okx_check_number (P := P) (w := w) (base := base) T ER EX
  refine T.F_ThresholdObserver_see_switching.okX sc_ThresholdObserver_see_switching (fun vs H Q E h => ?_) (fun cdv A outer s H vs Q E hr h => ?_)
  · obtain ⟨x, ac, o, rs, t, rfl, _⟩ := h
    rfl
  · obtain ⟨x, ac, o, rs, t, rfl, ⟨dx, u, lo, hi, hx, ⟨du, td, d, hu, _⟩, _⟩, bad, h⟩ := h
    refine ⟨_, (pss_cons (ps_expr (pe_call Gx_check_number (hr.mono (by decide)) (by rfl) T.mg_check_number T.F_check_number.kp (b_check_number T) .nil (passes_call (takes_of rfl rfl rfl rfl) (fun _ _ _ _ h => h)) (pa_cons (pv 1) (pa_cons (pe_fld (pe_fld (pv 0) rfl) rfl) (pa_cons (pe_glob (v := .int 1000000000000000000) rfl T.mg_MOST_TICKS.choose_spec ⟨_, rfl⟩) pa_nil)))))
      pss_never), ?_⟩
    exact ⟨_, rfl, _, rfl, x, _, dx, _, _, rfl, hx, T.cl_ThresholdObserver, T.na_ThresholdObserver__unseen, rfl, u, _, du, _, _, rfl, hu, T.cl_Stretch, T.na_Stretch_begin, rfl, _, _, _, rfl, fun q => absurd q bad, fun _ => h⟩
theorem ti_kb (T : Txt K mg a) : ∃ mv : List Value, KBn K a.d_ThresholdObserver_init ["self", "weather", "gain", "start", "on"] 4 ["on"] (fun us ws => us ++ mv ++ ws) (fun vs zs => vs ++ [] ++ zs) :=
  FunD.kbinds0 (ps := ["self", "weather", "gain", "start", "on"]) T.F_ThresholdObserver_init 4 ["on"] [] (fun vs mz zs => vs ++ mz ++ zs) (by simp) (fun q h => by cases h) (fun r1 r2 r3 => (r1.append r2).append r3)
    fun D doc pm an cdv ct us mv ws l1 l2 l3 => match us, mv, ws, l1, l2, l3 with | [_, _, _, _], [], [_], _, _, _ => rfl
theorem tk_get {ts : List Nat} {j : Nat} {v : V} (h : ((tkI ts).map V.int)[j]? = some v) : ∃ t : Nat, ts[j]? = some t ∧ v = .int (t : Int) := by
  unfold tkI at h
  rw [List.getElem?_map, List.getElem?_map] at h
  cases e : ts[j]? with
  | none => rw [e] at h; cases h
  | some t => rw [e] at h; cases h; exact ⟨t, rfl, rfl⟩
theorem tk_lt {ts : List Nat} {j t : Nat} (h : ts[j]? = some t) : j ≤ ts.length := Nat.le_of_lt (List.getElem?_eq_some_iff.mp h).1
theorem tk_take {ts : List Nat} {j t : Nat} (h : ts[j]? = some t) : ts.take (j + 1) = ts.take j ++ [t] := by
  rw [List.take_succ, h]; rfl
theorem ob_made {x y z dz ww : Addr} {H : Hp} {cs : List Int} {g st : Int} {on : Bool} {Q : VK} {E : XK} (lh : LH H x y) (nz : H z = none) (nd : H dz = none) (wt : WAt a H ww cs) (ch : CH cs) (g1 : 1 ≤ g) (g2 : g ≤ 200) (s0 : -1000000000000 ≤ st) (s1 : st ≤ 1000000000000)
    (k : ∀ ac H', Same H H' → LH H' x y → ObAt a (cut H' [x, y]) z ac ⟨cs, g, on, 0, st, -1000000000000, 1000000000000, -1000000000000, 1000000000000⟩ [] → Q .non H') :
    spFrame (spTi a) [.ref z, .ref ww, .int g, .int st, .bl on] (upd (upd H dz (.own z)) z (.ins a.c_ThresholdObserver dz [])) Q E := by
  have sz := same_made (x := z) (dx := dz) (C := a.c_ThresholdObserver) nz nd
  obtain ⟨dw, tw, w1, w2⟩ := wt
  have lhz := lh.same sz
  have lsz := lists_of lhz
  refine ⟨[x, y], lsz, z, dz, ww, cs, g, st, on, rfl, cut_nl lsz upd_same (fun _ z => nomatch z), ⟨dw, tw, cut_nl lsz (sz _ _ w1) (fun _ z => nomatch z), cut_nl lsz (sz _ _ w2) (fun _ z => nomatch z)⟩, ch, g1, g2, s0, s1, fun ac H0 fr0 _ ob0 n0 => ?_⟩
  refine k ac _ (fun b u e => ?_) lhz.mix (by rw [frm n0]; exact ob0)
  by_cases m : b ∈ [x, y]
  · rw [mix_in m]; exact sz _ _ e
  · rw [mix_out m]; exact fr0 b u (ne_of_none e nz) (by rw [cut_in m]; exact sz _ _ e)
set_option maxHeartbeats 0 in
theorem ok_law {cl Pt : Addr} (T : Txt K mg a) (ER : ErT P K mg er) (EX : ErX K er) (hc : a.d_law.code = .ref cl) (TB : TabB base mg cl Pt) : FnOk P w K mg base CX0 13 a.f_law a.d_law ["_law_script"] (spLawE K Pt) := by
  have G__law_mix : FnOk P w K mg base CX0 1 a.f__law_mix a.d__law_mix ["_law_script", "_law_seed"] (spMix K) := ok__law_mix T
  have G__law_next : FnOk P w K mg base CX0 1 a.f__law_next a.d__law_next ["_law_h", "_law_limit"] spNext := ok__law_next T
  have G__law_changes : FnOk P w K mg base CX0 2 a.f__law_changes a.d__law_changes ["_law_h", "_law_most"] spChanges := ok__law_changes T
  have G__law_setting : FnOk P w K mg base CX0 2 a.f__law_setting a.d__law_setting ["_law_h"] spSetting := ok__law_setting T
  have G__law_weather : FnOk P w K mg base CX0 4 a.f__law_weather a.d__law_weather ["_law_changes_here"] (spFrame (spWeather a)) := (ok__law_weather T).frame
  have G__law_told : FnOk P w K mg base CX0 1 a.f__law_told a.d__law_told ["_law_changes_here", "_law_setting_here", "_law_count"] spTold := ok__law_told T
  have G__law_ranges : FnOk P w K mg base CX0 1 a.f__law_ranges a.d__law_ranges ["_law_degrees", "_law_states", "_law_seen"] spRg := ok__law_ranges T
  have G__law_ends_right : FnOk P w K mg base CX0 3 a.f__law_ends_right a.d__law_ends_right ["_law_changes_here", "_law_setting_here", "_law_told_here", "_law_last", "_law_lows", "_law_highs"] spEr := ok__law_ends_right T
  have G__law_alike := alike2 (P := P) (w := w) (base := base) T
  have G_ThresholdObserver_init : FnOk P w K mg base CX0 4 a.f_ThresholdObserver_init a.d_ThresholdObserver_init ["self", "weather", "gain", "start", "on"] (spFrame (spTi a)) := (ok_ThresholdObserver_init T).frame
  have G_ThresholdObserver_low_range : FnOk P w K mg base CX0 1 a.f_ThresholdObserver_low_range a.d_ThresholdObserver_low_range ["self"] (getSp a.c_ThresholdObserver "_lows") := ok_ThresholdObserver_low_range T
  have G_ThresholdObserver_high_range : FnOk P w K mg base CX0 1 a.f_ThresholdObserver_high_range a.d_ThresholdObserver_high_range ["self"] (getSp a.c_ThresholdObserver "_highs") := ok_ThresholdObserver_high_range T
  have G_ThresholdObserver_seen_ticks : FnOk P w K mg base CX0 1 a.f_ThresholdObserver_seen_ticks a.d_ThresholdObserver_seen_ticks ["self"] (spSeen (a := a)) := ok_ThresholdObserver_seen_ticks T
  have G_ThresholdObserver_records : FnOk P w K mg base CX0 1 a.f_ThresholdObserver_records a.d_ThresholdObserver_records ["self"] (spRecs (a := a)) := ok_ThresholdObserver_records T
  have Gr := ok_ThresholdObserver_see_rest (P := P) (w := w) (base := base) T ER EX
  have Gs := ok_ThresholdObserver_see_switching (P := P) (w := w) (base := base) T ER EX
  have Gx := rx_ThresholdObserver_see_switching (P := P) (w := w) (base := base) T ER EX
  obtain ⟨tmv, tkb⟩ := ti_kb T
  refine okC T.F_law hc sc_law (fun vs H Q E h => ?_) (fun A outer s H vs Q E hr h => ?_)
  · obtain ⟨c, ns, rfl, _⟩ := h
    rfl
  · obtain ⟨c, ns, rfl, hS, hl, hT, k⟩ := h
    refine ⟨_, (pss_cons (ps_set (i := 1) sc_law.nd rfl (Or.inl rfl) (pe_call G__law_mix (hr.mono (by decide)) (by rfl) T.mg__law_mix T.F__law_mix.kp (b__law_mix T) .nil pass0 (pa_cons (pv 0) (pa_cons pe_int pa_nil))))
      (pss_cons (ps_par (i := 2) (j := 3) (by rfl) sc_law.nd rfl rfl (by decide) rfl rfl (pa_cons (pe_call G__law_changes (hr.mono (by decide)) (by rfl) T.mg__law_changes T.F__law_changes.kp (b__law_changes T) .nil pass0 (pa_cons (pv 1) (pa_cons pe_int pa_nil))) (pa_cons (pe_call G__law_setting (hr.mono (by decide)) (by rfl) T.mg__law_setting T.F__law_setting.kp (b__law_setting T) .nil pass0 (pa_cons (pv 1) pa_nil)) pa_nil)) (by rfl))
      (pss_cons (ps_asg (pv 3) (pg_tup rfl (pgs_cons (pg_name (i := 4) sc_law.nd rfl (Or.inl rfl)) (pgs_cons (pg_name (i := 5) sc_law.nd rfl (Or.inl rfl)) (pgs_cons (pg_name (i := 6) sc_law.nd rfl (Or.inl rfl)) (pgs_cons (pg_name (i := 7) sc_law.nd rfl (Or.inl rfl)) (pgs_cons (pg_name (i := 8) sc_law.nd rfl (Or.inl rfl)) pgs_nil)))))))
      (pss_cons (ps_set (i := 9) sc_law.nd rfl (Or.inr rfl) (pe_makeK T.mk_ThresholdObserver G_ThresholdObserver_init (hr.mono (by decide)) (by rfl) T.mg_ThresholdObserver tkb pass0 (pa_cons (pe_call G__law_weather (hr.mono (by decide)) (by rfl) T.mg__law_weather T.F__law_weather.kp (b__law_weather T) .nil pass0 (pa_cons (pv 2) pa_nil)) (pa_cons (pv 4) (pa_cons (pv 7) pa_nil))) (pk_cons (pv 8) pk_nil)))
      (pss_cons (ps_asg (pe_call G__law_told (hr.mono (by decide)) (by rfl) T.mg__law_told T.F__law_told.kp (b__law_told T) .nil pass0 (pa_cons (pv 2) (pa_cons (pv 3) (pa_cons pe_int pa_nil)))) (pg_tup rfl (pgs_cons (pg_name (i := 10) sc_law.nd rfl (Or.inl rfl)) (pgs_cons (pg_name (i := 11) sc_law.nd rfl (Or.inr rfl)) pgs_nil))))
      (pss_cons (ps_asg (pe_tup (pa_cons (pe_op op_cat (pe_lst (pa_cons (pv 8) pa_nil)) (pv 11)) (pa_cons (pe_lst pa_nil) (pa_cons (pe_lst pa_nil) (pa_cons pe_int pa_nil))))) (pg_tup rfl (pgs_cons (pg_name (i := 11) sc_law.nd rfl (Or.inr rfl)) (pgs_cons (pg_name (i := 12) sc_law.nd rfl (Or.inl rfl)) (pgs_cons (pg_name (i := 13) sc_law.nd rfl (Or.inl rfl)) (pgs_cons (pg_name (i := 14) sc_law.nd rfl (Or.inr rfl)) pgs_nil))))))
      (pss_cons (ps_setLc (i := 15) (own := [("_law_tick", 16)]) (g := gName 16) rfl sc_law.nd rfl rfl (sw_true rfl rfl rfl (by decide +kernel)) (pi_range1 (by rfl) T.z_range (pa_cons pe_int pa_nil)) (blkOk_by (own := [("_law_tick", 16)]) (N := ["_law_script", "_law_h", "_law_changes_here", "_law_setting_here", "_law_gain", "_law_low", "_law_high", "_law_start", "_law_heating", "_law_observer", "_law_degrees", "_law_states", "_law_told_here", "_law_records", "_law_seen", "_law_moves", "_law_tick", "_law_time", "_law_ahead", "_law_last", "_law_results", "_law_entry", "_law_calls", "_law_lows", "_law_highs", "_law_kept", "_law_error_here"]) (sc := (defScope s_law)) (by decide +kernel)) (fun _ _ _ _ _ => pg_name (i := 16) sc_law.nd rfl (Or.inl rfl)) (fun _ _ _ _ _ => pts_one (pt_cmpR op_ne (pe_ix (show IxR _ (rIxL K) from ix_list) (pv 11) (pv 16) (fun _ _ => rfl)) (pe_ix (show IxR _ (rIxL K) from ix_list) (pv 11) (pe_op op_add (pv 16) pe_int) (fun _ _ => rfl)) (nomark _))) (fun _ _ _ _ _ => (pv 16)))
      (pss_cons (ps_for PassesOwn.never rfl (pi_range1 (by rfl) T.z_range (pa_cons (pe_op op_add pe_int (pe_call G__law_next (hr.mono (by decide)) (by rfl) T.mg__law_next T.F__law_next.kp (b__law_next T) .nil pass0 (pa_cons (pv 1) (pa_cons pe_int pa_nil)))) pa_nil)) (pg_name (i := 17) sc_law.nd rfl (Or.inl rfl))
        (pss_cons (ps_setLc (i := 18) (own := [("_law_tick", 16)]) (g := gName 16) rfl sc_law.nd rfl rfl (sw_true rfl rfl rfl (by decide +kernel)) (pi_list (pv 15)) (blkOk_by (own := [("_law_tick", 16)]) (N := ["_law_script", "_law_h", "_law_changes_here", "_law_setting_here", "_law_gain", "_law_low", "_law_high", "_law_start", "_law_heating", "_law_observer", "_law_degrees", "_law_states", "_law_told_here", "_law_records", "_law_seen", "_law_moves", "_law_tick", "_law_time", "_law_ahead", "_law_last", "_law_results", "_law_entry", "_law_calls", "_law_lows", "_law_highs", "_law_kept", "_law_error_here"]) (sc := (defScope s_law)) (by decide +kernel)) (fun _ _ _ _ _ => pg_name (i := 16) sc_law.nd rfl (Or.inl rfl)) (fun _ _ _ _ _ => pts_one (pt_cmpR op_ge (pv 16) (pv 14) (nomark _))) (fun _ _ _ _ _ => (pv 16)))
      (pss_cons (ps_asg (pe_tup (pa_cons (pe_op op_add (pv 14) (pe_call G__law_next (hr.mono (by decide)) (by rfl) T.mg__law_next T.F__law_next.kp (b__law_next T) .nil pass0 (pa_cons (pv 1) (pa_cons pe_int pa_nil)))) (pa_cons (pe_lst pa_nil) pa_nil))) (pg_tup rfl (pgs_cons (pg_name (i := 19) sc_law.nd rfl (Or.inl rfl)) (pgs_cons (pg_name (i := 20) sc_law.nd rfl (Or.inr rfl)) pgs_nil))))
      (pss_cons (ps_set (i := 21) sc_law.nd rfl (Or.inr rfl) (pe_ifExp (PW.pt (pw_and (pt_cmpR (op_neD hr.units) (pv 18) (pe_lst pa_nil) (nomark _)) (pw_and1 (pt_cmpR op_eq (pe_call G__law_next (hr.mono (by decide)) (by rfl) T.mg__law_next T.F__law_next.kp (b__law_next T) .nil pass0 (pa_cons (pv 1) (pa_cons pe_int pa_nil))) pe_int (nomark _))))) (pe_tup (pa_cons pe_str (pa_cons (pe_ix ix_list (pv 18) pe_int (fun _ _ => rfl)) pa_nil))) (pe_tup (pa_cons pe_str (pa_cons (pv 19) pa_nil)))))
      (pss_cons (ps_if (PW.pt (pw_and (pt_cmpR op_eq (pe_ix (show IxR _ (rIxT K) from ix_tup) (pv 21) pe_int (fun _ _ => rfl)) pe_str (nomark _)) (pw_and1 (PW.pt (pw_or (PW.pt (pw_and (pt_cmpR (op_neD hr.units) (pv 18) (pe_lst pa_nil) (nomark _)) (pw_and1 (pt_cmpR op_le (pe_ix ix_list (pv 18) pe_int (fun _ _ => rfl)) (pv 19) (nomark _))))) (pw_or1 (pt_cmpR op_gt (pv 19) pe_int (nomark _)))))))) (pss_one (ps_set (i := 21) sc_law.nd rfl (Or.inr rfl) pe_non)) pss_nil)
      (pss_cons (ps_if (pt_cmpR op_notN (pv 21) pe_non (nomark _)) (pss_cons (ps_set (i := 22) sc_law.nd rfl (Or.inl rfl) (pe_lst (pa_cons (pe_lam0 (T := lamT Pt) (P := Pt) TB rfl (List.mem_singleton.mpr rfl) (fun p hp _ => congrArg Prod.snd (List.mem_singleton.mp hp)) (lamS2_by (N := ["_law_script", "_law_h", "_law_changes_here", "_law_setting_here", "_law_gain", "_law_low", "_law_high", "_law_start", "_law_heating", "_law_observer", "_law_degrees", "_law_states", "_law_told_here", "_law_records", "_law_seen", "_law_moves", "_law_tick", "_law_time", "_law_ahead", "_law_last", "_law_results", "_law_entry", "_law_calls", "_law_lows", "_law_highs", "_law_kept", "_law_error_here"]) (sc := defScope s_law) (by decide +kernel)) rfl) pa_nil)))
      (pss_cons (ps_expr (pe_bm PySem.F.plainAttrs_list PySem.F.slot_list_append PySem.F.type_list_append mt_append (pv 22) (pa_cons (pe_lam0 (T := lamT Pt) (P := Pt) TB rfl (List.mem_singleton.mpr rfl) (fun p hp _ => congrArg Prod.snd (List.mem_singleton.mp hp)) (lamS2_by (N := ["_law_script", "_law_h", "_law_changes_here", "_law_setting_here", "_law_gain", "_law_low", "_law_high", "_law_start", "_law_heating", "_law_observer", "_law_degrees", "_law_states", "_law_told_here", "_law_records", "_law_seen", "_law_moves", "_law_tick", "_law_time", "_law_ahead", "_law_last", "_law_results", "_law_entry", "_law_calls", "_law_lows", "_law_highs", "_law_kept", "_law_error_here"]) (sc := defScope s_law) (by decide +kernel)) rfl) pa_nil)))
      (pss_cons (ps_if (pt_cmpR (op_neD hr.units) (pe_give2 (k := 8) (give_error T ER) (by rfl) (hr.mono (by decide)) (by decide) (pa_cons (pe_ix ix_list (pv 22) (pe_callTy call_int1 (by rfl) T.z_int (by decide +kernel) (pa_cons (pe_cmpR op_eq (pe_ix (show IxR _ (rIxT K) from ix_tup) (pv 21) pe_int (fun _ _ => rfl)) pe_str (nomark _)) pa_nil)) (fun _ _ => rfl)) pa_nil)) (pe_tup (pa_cons pe_str pa_nil)) (nomark _)) (pss_one (ps_ret pe_bl)) pss_nil)
      (pss_cons (ps_expr (pe_bm PySem.F.plainAttrs_list PySem.F.slot_list_append PySem.F.type_list_append mt_append (pv 13) (pa_cons (pv 21) pa_nil)))
      (pss_cons (ps_set (i := 12) sc_law.nd rfl (Or.inl rfl) (pe_op op_cat (pv 12) (pe_op op_rep (pe_lst (pa_cons (pe_ix (show IxR _ (rIxT K) from ix_tup) (pv 21) pe_int (fun _ _ => rfl)) pa_nil)) (pe_callTy call_int1 (by rfl) T.z_int (by decide +kernel) (pa_cons (pe_cmpR op_eq (pe_ix (show IxR _ (rIxT K) from ix_tup) (pv 21) pe_int (fun _ _ => rfl)) pe_str (nomark _)) pa_nil)))))
      (pss_cons (ps_set (i := 14) sc_law.nd rfl (Or.inr rfl) (pe_op op_add (pe_ix (show IxR _ (rIxT K) from ix_tup) (pv 21) pe_int (fun _ _ => rfl)) pe_int))
      (pss_cons (ps_par (i := 23) (j := 24) (by rfl) sc_law.nd rfl rfl (by decide) rfl rfl (pa_cons (pe_prop (pv 9) T.cl_ThresholdObserver T.pr_ThresholdObserver_low_range G_ThresholdObserver_low_range (hr.mono (by decide)) (b_ThresholdObserver_low_range T) .nil pass0 rfl) (pa_cons (pe_prop (pv 9) T.cl_ThresholdObserver T.pr_ThresholdObserver_high_range G_ThresholdObserver_high_range (hr.mono (by decide)) (b_ThresholdObserver_high_range T) .nil pass0 rfl) pa_nil)) (by rfl))
      (pss_cons (ps_if (PW.pt (pw_or (pt_cmpR (op_neD hr.units) (pv 20) (pe_lst (pa_cons (pe_tup (pa_cons (pe_op op_add (pe_op op_sub (pe_ix (show IxR _ (rIxT K) from ix_tup) (pv 23) pe_int (fun _ _ => rfl)) (pe_ix (show IxR _ (rIxT K) from ix_tup) (pv 23) pe_int (fun _ _ => rfl))) pe_int) (pa_cons (pe_op op_add (pe_op op_sub (pe_ix (show IxR _ (rIxT K) from ix_tup) (pv 24) pe_int (fun _ _ => rfl)) (pe_ix (show IxR _ (rIxT K) from ix_tup) (pv 24) pe_int (fun _ _ => rfl))) pe_int) pa_nil))) pa_nil)) (nomark _)) (pw_or1 (pt_cmpR op_ne (pe_prop (pv 9) T.cl_ThresholdObserver T.pr_ThresholdObserver_seen_ticks G_ThresholdObserver_seen_ticks (hr.mono (by decide)) (b_ThresholdObserver_seen_ticks T) .nil pass0 rfl) (pv 14) (nomark _))))) (pss_one (ps_ret pe_bl)) pss_nil)
      (pss_cons (ps_if (PW.pt (pw_or (pt_not (pt_chain op_le op_le (pe_ix (show IxR _ (rIxT K) from ix_tup) (pv 23) pe_int (fun _ _ => rfl)) (pv 5) (pe_ix (show IxR _ (rIxT K) from ix_tup) (pv 23) pe_int (fun _ _ => rfl)))) (pw_or1 (pt_not (pt_chain op_le op_le (pe_ix (show IxR _ (rIxT K) from ix_tup) (pv 24) pe_int (fun _ _ => rfl)) (pv 6) (pe_ix (show IxR _ (rIxT K) from ix_tup) (pv 24) pe_int (fun _ _ => rfl))))))) (pss_one (ps_ret pe_bl)) pss_nil)
      (pss_cons (ps_if (pt_not (pt_val (pe_call G__law_alike (hr.mono (by decide)) (by rfl) T.mg__law_alike T.F__law_alike.kp (b__law_alike T) .nil pass0 (pa_cons (pe_lst (pa_cons (pv 23) (pa_cons (pv 24) pa_nil))) (pa_cons (pe_call G__law_ranges (hr.mono (by decide)) (by rfl) T.mg__law_ranges T.F__law_ranges.kp (b__law_ranges T) .nil pass0 (pa_cons (pv 10) (pa_cons (pv 11) (pa_cons (pv 14) pa_nil)))) pa_nil))))) (pss_one (ps_ret pe_bl)) pss_nil)
      (pss_one (ps_if (pt_not (pt_val (pe_call G__law_ends_right (hr.mono (by decide)) (by rfl) T.mg__law_ends_right T.F__law_ends_right.kp (b__law_ends_right T) .nil pass0 (pa_cons (pv 2) (pa_cons (pv 3) (pa_cons (pv 12) (pa_cons (pe_op op_sub (pv 14) pe_int) (pa_cons (pv 23) (pa_cons (pv 24) pa_nil))))))))) (pss_one (ps_ret pe_bl)) pss_nil)))))))))))) pss_nil)
      (pss_cons (ps_set (i := 25) sc_law.nd rfl (Or.inl rfl) (pe_lst (pa_cons (pe_prop (pv 9) T.cl_ThresholdObserver T.pr_ThresholdObserver_low_range G_ThresholdObserver_low_range (hr.mono (by decide)) (b_ThresholdObserver_low_range T) .nil pass0 rfl) (pa_cons (pe_prop (pv 9) T.cl_ThresholdObserver T.pr_ThresholdObserver_high_range G_ThresholdObserver_high_range (hr.mono (by decide)) (b_ThresholdObserver_high_range T) .nil pass0 rfl) (pa_cons (pe_prop (pv 9) T.cl_ThresholdObserver T.pr_ThresholdObserver_seen_ticks G_ThresholdObserver_seen_ticks (hr.mono (by decide)) (b_ThresholdObserver_seen_ticks T) .nil pass0 rfl) pa_nil)))))
      (pss_cons (ps_set (i := 26) sc_law.nd rfl (Or.inl rfl) (pe_give2 (k := 8) (give_error T ER) (by rfl) (hr.mono (by decide)) (by decide) (pa_cons (pe_lam0 (T := lamT Pt) (P := Pt) TB rfl (List.mem_singleton.mpr rfl) (fun p hp _ => congrArg Prod.snd (List.mem_singleton.mp hp)) (lamS2_by (N := ["_law_script", "_law_h", "_law_changes_here", "_law_setting_here", "_law_gain", "_law_low", "_law_high", "_law_start", "_law_heating", "_law_observer", "_law_degrees", "_law_states", "_law_told_here", "_law_records", "_law_seen", "_law_moves", "_law_tick", "_law_time", "_law_ahead", "_law_last", "_law_results", "_law_entry", "_law_calls", "_law_lows", "_law_highs", "_law_kept", "_law_error_here"]) (sc := defScope s_law) (by decide +kernel)) rfl) pa_nil)))
      (pss_one (ps_if (PW.pt (pw_or (pt_cmpR (op_neD hr.units) (pv 26) (pe_tup (pa_cons pe_str pa_nil)) (nomark _)) (pw_or1 (pt_cmpR (op_neD hr.units) (pe_lst (pa_cons (pe_prop (pv 9) T.cl_ThresholdObserver T.pr_ThresholdObserver_low_range G_ThresholdObserver_low_range (hr.mono (by decide)) (b_ThresholdObserver_low_range T) .nil pass0 rfl) (pa_cons (pe_prop (pv 9) T.cl_ThresholdObserver T.pr_ThresholdObserver_high_range G_ThresholdObserver_high_range (hr.mono (by decide)) (b_ThresholdObserver_high_range T) .nil pass0 rfl) (pa_cons (pe_prop (pv 9) T.cl_ThresholdObserver T.pr_ThresholdObserver_seen_ticks G_ThresholdObserver_seen_ticks (hr.mono (by decide)) (b_ThresholdObserver_seen_ticks T) .nil pass0 rfl) pa_nil)))) (pv 25) (nomark _))))) (pss_one (ps_ret pe_bl)) pss_nil))))))))))
      (pss_one (ps_ret (pe_call G__law_alike (hr.mono (by decide)) (by rfl) T.mg__law_alike T.F__law_alike.kp (b__law_alike T) .nil pass0 (pa_cons (pe_prop (pv 9) T.cl_ThresholdObserver T.pr_ThresholdObserver_records G_ThresholdObserver_records (hr.mono (by decide)) (b_ThresholdObserver_records T) .nil pass0 rfl) (pa_cons (pv 13) pa_nil))))))))))))), ?_⟩
    refine ⟨_, rfl, c, ns, 10, rfl, hS, by decide, by decide, hl, fun x y H1 lh1 s1 nx ny => ?_⟩
    have tb1 : Tabs (lamT Pt) H1 := hT.ext s1
    refine ⟨_, rfl, x, y, 6, rfl, lh1, by decide, by decide, fun tc cs H2 ch c6 htc ntc lh2 k2 => ⟨_, rfl, x, y, rfl, lh2, fun ts g lo hi2 st on H3 g1 g2 lh lo1 hi1 st1 st2 d1 d2 d3 hts nts lh3 k3 => ⟨_, _, rfl, ?_⟩⟩⟩
    have tb3 := tabs_keep lh2 k3 (tabs_keep lh1 k2 tb1)
    have htc3 := keep_tup lh2 k3 htc
    refine ⟨_, rfl, ts, _, rfl, SqT.of hts, rfl, _, _, rfl, _, _, rfl, _, _, rfl, _, _, rfl, _, _, rfl, rfl, ?_⟩
    obtain ⟨p, ep⟩ : ∃ p : Th.Par, p = ⟨cs, g, lo, hi2, st, on⟩ := ⟨_, rfl⟩
    have plo : p.lo = lo := by rw [ep]
    have phi : p.hi = hi2 := by rw [ep]
    have pok : p.Ok := by rw [ep]; exact ⟨ch.1, ch.2.1, ch.2.2, g1, g2, lh, by show (-1000000000000 : Int) ≤ lo; omega, by show hi2 ≤ (1000000000000 : Int); omega, st1, st2⟩
    dsimp only [List.set_cons_succ, List.set_cons_zero]
    refine seq_asg (C := fun v H' => ∃ z ac : Addr, v = .ref z ∧ ObAt a (cut H' [x, y]) z ac ⟨cs, g, on, 0, st, -1000000000000, 1000000000000, -1000000000000, 1000000000000⟩ [] ∧ LH H' x y ∧ Tabs (lamT Pt) H' ∧ Same H3 H') (fun Q7 hQ => ?_) ?_
    · have ls3 := lists_of lh3
      refine ⟨_, rfl, [x, y], ls3, tc, cs, rfl, cut_nl ls3 htc3 (fun _ z => nomatch z), ch, by omega, fun ww H0 s0 wt n0 => ?_⟩
      have s4 := frmS s0
      refine ⟨_, rfl, _, rfl, _, rfl, rfl, rfl, fun z dz nz nd ne => ?_⟩
      have wt' : WAt a (mix [x, y] H3 H0) ww cs := by
        obtain ⟨dw, tw, w1, w2⟩ := wt
        exact ⟨dw, tw, frmA n0 w1, frmA n0 w2⟩
      refine ob_made (lh3.same s4) nz nd wt' ch g1 g2 st1 st2 fun ac H5 s5 lh5 ob5 => ?_
      exact ⟨rfl, hQ _ _ ⟨z, ac, rfl, ob5, lh5, tb3.ext (s4.trans s5), s4.trans s5⟩⟩
    · rintro v H4 ⟨z, ac, rfl, ob, lh4, tb4, s4⟩
      have htc4 := s4 _ _ htc3
      have hts4 := s4 _ _ hts
      clear lh1 lh2 lh3 tb1 tb3 k2 k3 htc htc3 hts ntc nts s4
      refine ⟨_, rfl, _, rfl, tc, ts, p, 120, by rfl, by rw [ep]; exact ch.1, by rw [ep]; exact g1, by rw [ep]; exact g2, by decide, by rw [ep]; exact htc4, by rw [ep]; exact hts4, fun zt lf ls H5 s5 nf ns hz hlf hls => ?_⟩
      refine ⟨zt, _, rfl, SqT.of hz, rfl, _, _, rfl, _, _, rfl, rfl, ?_⟩
      have s45 := s5
      refine ⟨_, rfl, by show 1 ≤ sizeLine; decide, fun l0 nl0 => ⟨_, rfl, l0, ls, _, _, rfl, rfl, upd_same, same_upd nl0 _ _ hls, by rw [List.length_map, List.length_range]; show 1 + 120 ≤ sizeLine; decide, fun L nL => ⟨by show 0 ≤ sizeLine; decide, fun TL nTL => ⟨by show 0 ≤ sizeLine; decide, fun R nR => ⟨by show 4 ≤ sizeLine; decide, fun tq ntq => ?_⟩⟩⟩⟩⟩
      have eL : [V.bl on] ++ (List.range 120).map (fun t => V.bl (Th.onn p t)) = stV p 120 := by rw [stV_eq, ep]; rfl
      refine ⟨tq, _, rfl, SqT.of upd_same, rfl, _, _, rfl, _, _, rfl, _, _, rfl, _, _, rfl, rfl, ?_⟩
      obtain ⟨t1, w1⟩ := at_new (o := .lst [.bl on]) nl0
      obtain ⟨t2, w2⟩ := at_new (o := .lst ([.bl on] ++ (List.range 120).map fun t => V.bl (Th.onn p t))) nL
      obtain ⟨t3, w3⟩ := at_new (o := .lst []) nTL
      obtain ⟨t4, w4⟩ := at_new (o := .lst []) nR
      have t5 := same_upd (o := .tup [.ref L, .ref TL, .ref R, .int 0]) ntq
      have s6 := t1.trans (t2.trans (t3.trans (t4.trans t5)))
      have hL6 := (t3.trans (t4.trans t5)) _ _ w2
      have hTL6 := (t4.trans t5) _ _ w3
      have hR6 := t5 _ _ w4
      have lh5 := lh4.same s5
      obtain ⟨_, _, _, _, _, _, _, _, hac0⟩ := id ob
      have hac4 := cut_some hac0
      have hac5 := s5 _ _ hac4
      have oL := off3 (lh5.same t1) (t1 _ _ hac5) nL
      have oTL := off3 (lh5.same (t1.trans t2)) ((t1.trans t2) _ _ hac5) nTL
      have oR := off3 (lh5.same (t1.trans (t2.trans t3))) ((t1.trans (t2.trans t3)) _ _ hac5) nR
      have olf := off3 lh4 hac4 nf
      have mlf := ne_of_none ((t1.trans (t2.trans t3)) _ _ hlf) nR
      have mL := ne_of_none (t3 _ _ w2) nR
      have mTL := ne_of_none w3 nR
      have fR : H4 R = none := s5.free ((t1.trans (t2.trans t3)).free nR)
      generalize upd (upd _ R _) tq _ = H6 at s6 hL6 hTL6 hR6 ⊢
      rw [eL] at hL6
      have s46 := s5.trans s6
      have ob6 : ObAt a (cut H6 [x, y, R]) z ac ⟨cs, g, on, 0, st, -1000000000000, 1000000000000, -1000000000000, 1000000000000⟩ [] := ob.same (cutMore s46 fun q m m' => by
        simp only [List.mem_cons, List.not_mem_nil, or_false, not_or] at m m'
        rcases m with e | e | e
        · exact absurd e m'.1
        · exact absurd e m'.2
        · rw [e]; exact fR)
      have ot6 : OT p ⟨cs, g, on, 0, st, -1000000000000, 1000000000000, -1000000000000, 1000000000000⟩ 0 := by
        rw [ep]
        exact ⟨rfl, rfl, rfl, rfl, Int.add_zero _, rfl⟩
      have lh6 := lh4.same s46
      have hac6 := s46 _ _ hac4
      have tb6 := tb4.ext s46
      have htc6 := s46 _ _ htc4
      have hts6 := s46 _ _ hts4
      have hlf6 : H6 lf = some (.lst (dgV p 120)) := s6 _ _ hlf
      clear t1 t2 t3 t4 t5 w1 w2 w3 w4 nL nTL nR ntq nl0 lh4 lh5 tb4 ob htc4 hts4 hlf hls hz nf ns fR s46 s6 s5 s45 hac0 hac4 hac5
      dsimp only
      show tSeq (tAsg _ _) _ _ [some (.ref c), some (.ref x), some (.ref tc), some (.ref ts), some (.int g), some (.int lo), some (.int hi2), some (.int st), some (.bl on), some (.ref z), some (.ref lf), some (.ref L), some (.ref TL), some (.ref R), some (.int 0), none, none, none, none, none, none, none, none, none, none, none, none] _
      refine ⟨120, rfl, by decide, by decide, fun D nD => lc_range (lo := 0) (n := ((120 : Int)).toNat) (fun i H' => Same H6 H' ∧ H' D = some (.lst ((tkI (mvs p i)).map V.int))) ⟨same_upd nD, upd_same⟩ ?_ ?_⟩
      · rintro i H' hi ⟨s4, hD'⟩
        have hi : i < 120 := hi
        have hL' := s4 _ _ hL6
        have e0 : (0 : Int) + (i : Int) = (i : Int) := Int.zero_add _
        have e1 : (i : Int) + 1 = ((i + 1 : Nat) : Int) := by omega
        refine ⟨rfl, _, rfl, _, rfl, L, _, _, _, rfl, rfl, SqL.of hL', by rw [e0]; exact stV_at (Nat.le_of_lt hi), _, rfl, _, rfl, _, _, rfl, rfl, L, _, _, _, rfl, rfl, SqL.of hL', by rw [e0, e1]; exact stV_at hi, rfl, _, rfl, ?_⟩
        by_cases m : was p i = was p (i + 1)
        · refine ifF (by rw [m]; show (!decide (V.bl _ = V.bl _)) = false; rw [decide_eq_true rfl]; rfl) ?_
          refine ⟨s4, ?_⟩
          have : ¬ Mv p i = true := by unfold Mv; simp [m]
          rw [mvs_succ, if_neg this]
          exact hD'
        · refine ifT (by show (!decide (V.bl _ = V.bl _)) = true; rw [decide_eq_false (fun e => m (V.bl.inj e))]; rfl) ?_
          have : Mv p i = true := by unfold Mv; simp [m]
          refine ⟨_, rfl, _, hD', by rw [List.length_map, tkI_len]; exact Nat.lt_of_le_of_lt (Nat.le_trans (mvs_len p i) (by omega : i ≤ 1000)) (by decide), fun b u e => by rw [upd_ne (ne_of_none e nD)]; exact s4 _ _ e, ?_⟩
          rw [upd_same, mvs_succ, if_pos this, tkI_snoc, List.map_append, e0]
          rfl
      · rintro H7 ⟨s7, hD7⟩
        rw [show ((120 : Int)).toNat = 120 from rfl] at hD7
        have oD := off3 lh6 hac6 nD
        have mD := ne_of_none' hR6 nD
        have wd : Wd a x y Pt tc ts lf L D TL R z ac p 0 ⟨cs, g, on, 0, st, -1000000000000, 1000000000000, -1000000000000, 1000000000000⟩ [] [] H7 := by
          refine ⟨lh6.same s7, tb6.ext s7, s7 _ _ (by rw [ep]; exact htc6), s7 _ _ (by rw [ep]; exact hts6), s7 _ _ hlf6, s7 _ _ hL6, hD7, s7 _ _ hTL6, ob6.same (sameCut s7), ⟨[], s7 _ _ hR6, rfl, fun j r q e => by simp at e⟩, fun b m => ?_, oR⟩
          simp only [List.mem_cons, List.not_mem_nil, or_false] at m
          rcases m with rfl | rfl | rfl | rfl
          · exact ⟨olf.1, olf.2.1, olf.2.2, mlf⟩
          · exact ⟨oL.1, oL.2.1, oL.2.2, mL⟩
          · exact ⟨oD.1, oD.2.1, oD.2.2, mD⟩
          · exact ⟨oTL.1, oTL.2.1, oTL.2.2, mTL⟩
        clear lh6 tb6 htc6 hts6 hlf6 hL6 hTL6 hR6 s7 hD7 ob6 nD
        refine ⟨_, rfl, x, y, 6, rfl, wd.hlh, by decide, by decide, fun r0 H8 q0 q1 lh8 k8 => ⟨_, _, rfl, rfl, 1 + r0, rfl, by omega, by omega, ?_⟩⟩
        have wd8 := wd.keep k8 lh8
        clear wd k8 lh8
        refine for_range (lo := 0) (n := (1 + r0).toNat) (fun i σ H' => ∃ (n : Nat) (o : Ob) (rs : List Addr) (TL : Addr) (vs : List (Option V)), σ = some (.ref c) :: some (.ref x) :: some (.ref tc) :: some (.ref ts) :: some (.int g) :: some (.int lo) :: some (.int hi2) :: some (.int st) :: some (.bl on) :: some (.ref z) :: some (.ref lf) :: some (.ref L) :: some (.ref TL) :: some (.ref R) :: some (.int n) :: some (.ref D) :: vs ∧ vs.length = 11 ∧ OT p o n ∧ Wd a x y Pt tc ts lf L D TL R z ac p n o rs rs H' ∧ rs.length ≤ i ∧ n ≤ 120)
          ⟨0, _, [], TL, List.replicate 11 none, rfl, rfl, ot6, wd8, Nat.le_refl _, by decide⟩ ?_ ?_
        · clear wd8 ot6
          rintro i σ H' hi ⟨n, o, rs, TL, vs, rfl, lvs, ot, wd, lrs, n120⟩
          match vs, lvs with
          | [v16, v17, v18, v19, v20, v21, v22, v23, v24, v25, v26], _ =>
          clear lvs
          have hi : i < 6 := by omega
          refine ⟨_, rfl, D, rfl, ⟨_, SqL.of wd.hmv⟩, fun A nA => lc_list (K := K) (a := D) (xs := (tkI (mvs p 120)).map V.int) (fun i H2 => Same H' H2 ∧ H2 A = some (.lst ((tkI (((mvs p 120).take i).filter fun t => decide (n ≤ t))).map V.int))) ⟨same_upd nA, upd_same⟩ (fun j H2 _ q => SqL.of (q.1 _ _ wd.hmv)) ?_ ?_⟩
          · rintro j v H2 hx ⟨s2, hA⟩
            obtain ⟨t, ht, rfl⟩ := tk_get hx
            refine ⟨rfl, _, rfl, _, rfl, _, _, rfl, rfl, _, rfl, ?_⟩
            by_cases c1 : (n : Int) ≤ (t : Int)
            · refine ifT (dT c1) ⟨_, rfl, _, hA, by rw [List.length_map, tkI_len]; exact Nat.lt_of_le_of_lt (Nat.le_trans (List.length_filter_le _ _) (Nat.le_trans (List.length_take_le _ _) (Nat.le_trans (tk_lt ht) (mvs_len p 120)))) (by decide), fun b u e => by rw [upd_ne (ne_of_none e nA)]; exact s2 _ _ e, ?_⟩
              rw [upd_same, tk_take ht, List.filter_append, show ([t].filter fun t => decide (n ≤ t)) = [t] by simp; omega, tkI_snoc, List.map_append]
              rfl
            · refine ifF (dF c1) ⟨s2, ?_⟩
              rw [tk_take ht, List.filter_append, show ([t].filter fun t => decide (n ≤ t)) = [] by simp; omega, List.append_nil]
              exact hA
          rintro H2 ⟨s2, hA⟩
          rw [List.length_map, tkI_len, List.take_length] at hA
          have hA : H2 A = some (.lst ((tkI (ahd p n)).map V.int)) := hA
          have oA := wd.hlh.off nA
          have wd2 := wd.same s2
          clear wd s2 nA
          dsimp only [List.set_cons_succ, List.set_cons_zero]
          refine ⟨_, rfl, _, rfl, x, y, 9, rfl, wd2.hlh, by decide, by decide, fun r3 H3 q2 q3 lh3 k3 => ⟨_, _, rfl, rfl, by show 0 ≤ sizeLine; decide, fun RS nRS => ⟨by show 2 ≤ sizeLine; decide, fun tp ntp => ⟨tp, _, rfl, SqT.of upd_same, rfl, _, _, rfl, _, _, rfl, rfl, ?_⟩⟩⟩⟩
          obtain ⟨la, ela⟩ : ∃ la : Nat, (n : Int) + r3 = (la : Int) := ⟨((n : Int) + r3).toNat, by omega⟩
          dsimp only
          rw [ela]
          have la9 : n ≤ la ∧ la < n + 9 := by omega
          have oRS := lh3.off nRS
          obtain ⟨t3, w3⟩ := at_new (o := .lst []) nRS
          have t4 := same_upd (o := .tup [.int (la : Int), .ref RS]) ntp
          have wd3 := (wd2.keep k3 lh3).same (t3.trans t4)
          have hA3 := (t3.trans t4) _ _ (k3 _ _ oA.1 oA.2 hA)
          have hRS3 := t4 _ _ w3
          have fRS : H3 RS = none := nRS
          have wdk := wd2.keep k3 lh3
          have nR3 : RS ≠ R := by
            obtain ⟨qs, hq, _⟩ := wdk.hrc
            exact ne_of_none' hq nRS
          have nL3 : ∀ b ∈ [lf, L, D, TL], b ≠ RS := fun b m => by
            simp only [List.mem_cons, List.not_mem_nil, or_false] at m
            rcases m with rfl | rfl | rfl | rfl
            · exact ne_of_none wdk.hdg nRS
            · exact ne_of_none wdk.hst nRS
            · exact ne_of_none wdk.hmv nRS
            · exact ne_of_none wdk.htl nRS
          have ob3 : ObAt a (cut (upd (upd H3 RS (.lst [])) tp (.tup [.int (la : Int), .ref RS])) [x, y, R, RS]) z ac o rs := (wd2.keep k3 lh3).hob.same (cutMore (t3.trans t4) fun q m m' => by
            simp only [List.mem_cons, List.not_mem_nil, or_false, not_or] at m m'
            rcases m with e | e | e | e
            · exact absurd e m'.1
            · exact absurd e m'.2.1
            · exact absurd e m'.2.2
            · rw [e]; exact fRS)
          generalize upd (upd H3 RS _) tp _ = H4 at wd3 hA3 hRS3 ob3 ⊢
          clear wd2 hA t3 t4 w3 lh3 k3 nRS ntp ela q2 q3 fRS wdk
          show tSeq (tAsg _ _) _ _ [some (.ref c), some (.ref x), some (.ref tc), some (.ref ts), some (.int g), some (.int lo), some (.int hi2), some (.int st), some (.bl on), some (.ref z), some (.ref lf), some (.ref L), some (.ref TL), some (.ref R), some (.int n), some (.ref D), v16, some (.int (0 + (i : Int))), some (.ref A), some (.int la), some (.ref RS), v21, v22, v23, v24, v25, v26] _
          have wx3 : Wx a x y Pt tc ts lf L D TL R z ac A RS p n o rs rs H4 := ⟨wd3, hA3, hRS3, ob3, oA, oRS, nR3, nL3⟩
          clear wd3 hA3 hRS3 ob3 oA oRS nR3 nL3
          refine seq_asg (C := fun v H' => ∃ (e : Addr) (sw : Bool) (t : Nat), v = .ref e ∧ H' e = some (.tup [.str (swN sw), .int t]) ∧ (sw = true → ∃ r, ahd p n = t :: r) ∧ (sw = false → t = la) ∧ Wx a x y Pt tc ts lf L D TL R z ac A RS p n o rs rs H') (fun Q7 hQ => ?_) ?_
          · have lead : ∀ H5, Wx a x y Pt tc ts lf L D TL R z ac A RS p n o rs rs H5 → ∀ tp, H5 tp = none → Q7 (.ref tp) (upd H5 tp (.tup [.str "rest", .int la])) := fun H5 w5 tp ntp => hQ _ _ ⟨tp, false, la, rfl, upd_same, (fun z => nomatch z), fun _ => rfl, w5.same (same_upd ntp)⟩
            refine ⟨_, rfl, by show 0 ≤ sizeLine; decide, fun em nem => ?_⟩
            have w5 := wx3.same (same_upd (o := .lst []) nem)
            cases ea : ahd p n with
            | nil =>
              refine neL_ints (ns := tkI (ahd p n)) (ms := []) w5.hA upd_same ⟨_, rfl, ?_⟩
              refine ifF (by rw [ea]; rfl) ?_
              refine ifF rfl ?_
              exact ⟨_, rfl, by show 2 ≤ sizeLine; decide, fun tp ntp => lead _ w5 tp ntp⟩
            | cons m r =>
              refine neL_ints (ns := tkI (ahd p n)) (ms := []) w5.hA upd_same ⟨_, rfl, ?_⟩
              refine ifT (by rw [ea]; rfl) ?_
              refine ⟨_, rfl, x, y, 2, rfl, w5.w.hlh, by decide, by decide, fun r6 H6 q6 q7 lh6 k6 => ⟨rfl, _, rfl, ?_⟩⟩
              have w6 := w5.keep k6 lh6
              by_cases c6 : r6 = 0
              · refine ifT (dT (congrArg V.int c6)) ?_
                exact ⟨_, rfl, A, _, _, _, rfl, rfl, SqL.of w6.hA, by rw [ea]; exact at_int (Int.le_refl 0) rfl, by show 2 ≤ sizeLine; decide, fun tp ntp => hQ _ _ ⟨tp, true, m, rfl, upd_same, fun _ => ⟨r, ea⟩, (fun z => nomatch z), w6.same (same_upd ntp)⟩⟩
              · refine ifF (dF (fun z => c6 (V.int.inj z))) ?_
                exact ⟨_, rfl, by show 2 ≤ sizeLine; decide, fun tp ntp => lead _ w6 tp ntp⟩
          · rintro v H5 ⟨e, sw, t, rfl, he, hsw, hre, wx5⟩
            clear wx3
            have hahd : sw = true → EntOk p n sw t := fun e0 => by
              obtain ⟨r, er⟩ := hsw e0
              obtain ⟨f1, f2, f3, f4⟩ := ahd_cons er
              rw [e0]
              exact ⟨f3, f1, (fun z => nomatch z), fun _ => ⟨f2, f4⟩⟩
            refine g_if (C := fun σ' H' => ∃ ve : V, σ' = [some (.ref c), some (.ref x), some (.ref tc), some (.ref ts), some (.int g), some (.int lo), some (.int hi2), some (.int st), some (.bl on), some (.ref z), some (.ref lf), some (.ref L), some (.ref TL), some (.ref R), some (.int n), some (.ref D), v16, some (.int (0 + (i : Int))), some (.ref A), some (.int la), some (.ref RS), some ve, v22, v23, v24, v25, v26] ∧ Wx a x y Pt tc ts lf L D TL R z ac A RS p n o rs rs H' ∧ (ve = .non ∨ ∃ (e : Addr) (sw : Bool) (t : Nat), ve = .ref e ∧ H' e = some (.tup [.str (swN sw), .int t]) ∧ EntOk p n sw t)) (fun D' hD' => ?_) ?_
            · dsimp only [List.set_cons_succ, List.set_cons_zero]
              refine ⟨_, rfl, e, _, _, _, rfl, rfl, SqT.of he, rfl, rfl, _, rfl, ?_⟩
              cases sw with
              | true =>
                refine ifF (by decide) ?_
                refine ifF rfl ?_
                exact hD' _ _ ⟨_, rfl, wx5, .inr ⟨e, true, t, rfl, he, hahd rfl⟩⟩
              | false =>
                obtain rfl : t = la := hre rfl
                refine ifT (by decide) ?_
                refine ⟨_, rfl, by show 0 ≤ sizeLine; decide, fun em nem => ?_⟩
                have se := same_upd (o := .lst []) nem
                have w6 := wx5.same se
                have he6 := se _ _ he
                have last : (∀ u, n ≤ u → u < 120 → u ≤ t → Mv p u = false) → n ≤ t → t ≤ 110 → EntOk p n false t := fun hq h1 h2 => ⟨h1, by omega, fun _ u a b => hq u a (by omega) (by omega), fun z => nomatch z⟩
                cases ea : ahd p n with
                | nil =>
                  refine neL_ints (ns := tkI (ahd p n)) (ms := []) w6.hA upd_same ⟨_, rfl, ?_⟩
                  refine ifF (by rw [ea]; rfl) ?_
                  refine ifF rfl ?_
                  refine ⟨_, rfl, _, _, rfl, rfl, _, rfl, ?_⟩
                  by_cases c8 : (110 : Int) < (t : Int)
                  · refine ifT (dT c8) ?_
                    exact hD' _ _ ⟨.non, rfl, w6, .inl rfl⟩
                  · refine ifF (dF c8) ?_
                    exact hD' _ _ ⟨_, rfl, w6, .inr ⟨e, false, t, rfl, he6, last (fun u a b _ => ahd_nil ea u a b) la9.1 (by omega)⟩⟩
                | cons m r =>
                  refine neL_ints (ns := tkI (ahd p n)) (ms := []) w6.hA upd_same ⟨_, rfl, ?_⟩
                  refine ifT (by rw [ea]; rfl) ?_
                  refine ⟨_, rfl, A, _, _, _, rfl, rfl, SqL.of w6.hA, by rw [ea]; exact at_int (Int.le_refl 0) rfl, _, rfl, _, _, rfl, rfl, _, rfl, ?_⟩
                  by_cases c7 : (m : Int) ≤ (t : Int)
                  · refine ifT (dT c7) ?_
                    refine ifT rfl ?_
                    exact hD' _ _ ⟨.non, rfl, w6, .inl rfl⟩
                  · refine ifF (dF c7) ?_
                    refine ⟨_, rfl, _, _, rfl, rfl, _, rfl, ?_⟩
                    by_cases c8 : (110 : Int) < (t : Int)
                    · refine ifT (dT c8) ?_
                      exact hD' _ _ ⟨.non, rfl, w6, .inl rfl⟩
                    · refine ifF (dF c8) ?_
                      exact hD' _ _ ⟨_, rfl, w6, .inr ⟨e, false, t, rfl, he6, last (fun u a b ut => (ahd_cons ea).2.2.2 u a (by omega)) la9.1 (by omega)⟩⟩
            · rintro σ H6 ⟨ve, rfl, wx6, alt⟩
              refine seq_if (C := fun σ' H' => ∃ (n' : Nat) (o' : Ob) (rs' : List Addr) (TL' : Addr) (vs : List (Option V)), σ' = some (.ref c) :: some (.ref x) :: some (.ref tc) :: some (.ref ts) :: some (.int g) :: some (.int lo) :: some (.int hi2) :: some (.int st) :: some (.bl on) :: some (.ref z) :: some (.ref lf) :: some (.ref L) :: some (.ref TL') :: some (.ref R) :: some (.int n') :: some (.ref D) :: vs ∧ vs.length = 11 ∧ OT p o' n' ∧ Wd a x y Pt tc ts lf L D TL' R z ac p n' o' rs' rs' H' ∧ rs'.length ≤ i + 1 ∧ n' ≤ 120) (fun D' hD' => ?_) ?_
              · refine ⟨_, rfl, rfl, _, rfl, ?_⟩
                rcases alt with rfl | ⟨e, sw, t, rfl, he, ent⟩
                · refine ifF rfl ?_
                  exact hD' _ _ ⟨n, o, rs, TL, _, rfl, rfl, ot, wx6.w, by omega, n120⟩
                refine ifT rfl ?_
                refine seq_unf ?_
                refine ws_one wx6.w.htb (fun W H7 f0 ws => ?_)
                refine g_seq ?_
                dsimp only [List.set_cons_succ, List.set_cons_zero]
                refine ws_append ws rfl (by show 1 ≤ 1000; decide) (fun H8 f1 ws => ?_)
                have wx8 := wx6.ext ws.ext ws.tab
                have he8 := ws.ext _ _ he (fun _ z => nomatch z)
                clear wx6 he
                dsimp only
                refine seq_if (C := fun σ' H' => σ' = [some (.ref c), some (.ref x), some (.ref tc), some (.ref ts), some (.int g), some (.int lo), some (.int hi2), some (.int st), some (.bl on), some (.ref z), some (.ref lf), some (.ref L), some (.ref TL), some (.ref R), some (.int n), some (.ref D), v16, some (.int (0 + (i : Int))), some (.ref A), some (.int la), some (.ref RS), some (.ref e), some (.ref W), v23, v24, v25, v26] ∧ ∃ (o' : Ob) (r q : Addr), OT p o' (t + 1) ∧ Wd a x y Pt tc ts lf L D TL R z ac p n o' (rs ++ [r]) rs H' ∧ H' r = some (.tup [.str (swN sw), .int t]) ∧ H' e = some (.tup [.str (swN sw), .int t]) ∧ H' RS = some (.lst [.ref q]) ∧ H' q = some (.tup [.int (o'.l1 - o'.l0 + 1), .int (o'.h1 - o'.h0 + 1)])) (fun D2 hD2 => ?_) ?_
                · refine if_op ?_
                  refine te_any (C := fun v H' => ∃ pz : Addr, v = .ref pz ∧ H' pz = some (.tup [.str "none"]) ∧ ∃ (o' : Ob) (r q : Addr), OT p o' (t + 1) ∧ Wd a x y Pt tc ts lf L D TL R z ac p n o' (rs ++ [r]) rs H' ∧ H' r = some (.tup [.str (swN sw), .int t]) ∧ H' e = some (.tup [.str (swN sw), .int t]) ∧ H' RS = some (.lst [.ref q]) ∧ H' q = some (.tup [.int (o'.l1 - o'.l0 + 1), .int (o'.h1 - o'.h0 + 1)])) (fun Q7 hQ => ?_) ?_
                  · have ls4 : ∀ b ∈ [x, y, R, RS], ∃ xs, H8 b = some (.lst xs) := fun b m => by
                      simp only [List.mem_cons, List.not_mem_nil, or_false] at m
                      obtain ⟨m0, i0, cs0, e1, e2, _⟩ := wx8.w.hlh
                      obtain ⟨qs, e3, _⟩ := wx8.w.hrc
                      rcases m with rfl | rfl | rfl | rfl
                      · exact ⟨_, e1⟩
                      · exact ⟨_, e2⟩
                      · exact ⟨_, e3⟩
                      · exact ⟨_, wx8.hRS⟩
                    obtain ⟨dz, u0, l10, h10, hzc, _, _, _, hacc⟩ := id wx8.ob4
                    have hz8 := cut_some hzc
                    have hac8 := cut_some hacc
                    have nRSac : RS ≠ ac := fun e => by
                      rw [← e] at hacc
                      rw [cut_at (by simp)] at hacc; cases hacc
                    have fin : ∀ (o' : Ob) (q r : Addr) (H' : Hp), OT p o' (t + 1) → Fr2 z ac H8 H' → H' q = some (.tup [.int (o'.l1 - o'.l0 + 1), .int (o'.h1 - o'.h0 + 1)]) → H' r = some (.tup [.str (swN sw), .int t]) → ObAt a (cut H' [x, y, R, RS]) z ac o' (rs ++ [r]) → ∀ pz, upd H' RS (.lst [.ref q]) pz = none → Q7 (.ref pz) (upd (upd H' RS (.lst [.ref q])) pz (.tup [.str "none"])) := fun o' q r H' ot' fr hq hr' oa pz npz => by
                      have sp := same_upd (o := .tup [.str "none"]) npz
                      have hRS' : H' RS = some (.lst []) := fr RS _ (ne_of wx8.hRS hz8 (fun z => nomatch z)) nRSac wx8.hRS
                      have tu : ∀ {b : Addr} {ys : List V}, H' b = some (.tup ys) → upd (upd H' RS (.lst [.ref q])) pz (.tup [.str "none"]) b = some (.tup ys) := fun {b ys} e => sp _ _ (by rw [upd_ne (ne_of e hRS' (fun z => nomatch z))]; exact e)
                      refine hQ _ _ ⟨pz, rfl, upd_same, o', r, q, ot', (wx8.told fr oa).same sp, tu hr', tu (fr e _ (ne_of he8 hz8 (fun z => nomatch z)) (ne_of he8 hac8 (fun z => nomatch z)) he8), sp _ _ upd_same, tu hq⟩
                    cases sw with
                    | true =>
                      refine ⟨_, rfl, _, rfl, e, _, _, _, rfl, rfl, SqT.of he8, rfl, rfl, .inr ⟨_, rfl, W, _, _, .ref f1, rfl, rfl, SqL.of ws.at_, by rw [show decide (V.str (swN true) = V.str (Str.ofString "switching")) = true by decide]; exact at_int (by decide) rfl, f1, _, _, _, _, _, rfl, ws.get 1 rfl, ⟨lamS2_by (N := ["_law_script", "_law_h", "_law_changes_here", "_law_setting_here", "_law_gain", "_law_low", "_law_high", "_law_start", "_law_heating", "_law_observer", "_law_degrees", "_law_states", "_law_told_here", "_law_records", "_law_seen", "_law_moves", "_law_tick", "_law_time", "_law_ahead", "_law_last", "_law_results", "_law_entry", "_law_calls", "_law_lows", "_law_highs", "_law_kept", "_law_error_here"]) (sc := defScope s_law) (by decide +kernel), lamB0 (fun _ _ _ _ _ _ => rfl), fun A outer s H E f c' hr => (show PE _ _ (tBM K "list" rAppend _ _) from pe_bm PySem.F.plainAttrs_list PySem.F.slot_list_append PySem.F.type_list_append mt_append (pv 20) (pa_cons (pe_meth (pv 9) T.cl_ThresholdObserver T.me_ThresholdObserver_see_switching Gs (hr.mono (by decide)) (b_ThresholdObserver_see_switching T) .nil (passes_call (takes_of rfl rfl rfl rfl) (fun _ _ _ _ h => h)) (pa_cons (pe_ix (show IxR _ (rIxT K) from ix_tup) (pv 21) pe_int (fun _ _ => rfl)) pa_nil)) pa_nil))⟩, ?_⟩⟩
                      refine ⟨_, rfl, .inl ⟨rfl, _, SqL.of wx8.hRS⟩, _, rfl, z, dz, _, rfl, hz8, rfl, _, rfl, e, _, _, _, rfl, rfl, SqT.of he8, rfl, [x, y, R, RS], z, ac, t, o, rs, rfl, ls4, wx8.ob4, by omega, by rw [ot.b]; exact ent.1, by have := ent.2.1; omega, fun oe ex => ?_⟩
                      have ot' := ot.sw (ent.2.2.2 rfl).2 (ent.2.2.2 rfl).1 ent.1 ex
                      obtain ⟨good, _⟩ := ot'.good pok.lohi pok.lob pok.hib
                      refine ⟨fun bad => absurd bad good, fun _ q r H' fr hq hr' oa => ⟨RS, _, _, rfl, rfl, fr RS _ (ne_of wx8.hRS hz8 (fun z => nomatch z)) nRSac wx8.hRS, by show 0 < sizeLine; decide, by show 1 ≤ sizeLine; decide, fun pz npz => fin _ q r H' ot' fr hq hr' oa pz npz⟩⟩
                    | false =>
                      refine ⟨_, rfl, _, rfl, e, _, _, _, rfl, rfl, SqT.of he8, rfl, rfl, .inr ⟨_, rfl, W, _, _, .ref f0, rfl, rfl, SqL.of ws.at_, by rw [show decide (V.str (swN false) = V.str (Str.ofString "switching")) = false by decide]; exact at_int (by decide) rfl, f0, _, _, _, _, _, rfl, ws.get 0 rfl, ⟨lamS2_by (N := ["_law_script", "_law_h", "_law_changes_here", "_law_setting_here", "_law_gain", "_law_low", "_law_high", "_law_start", "_law_heating", "_law_observer", "_law_degrees", "_law_states", "_law_told_here", "_law_records", "_law_seen", "_law_moves", "_law_tick", "_law_time", "_law_ahead", "_law_last", "_law_results", "_law_entry", "_law_calls", "_law_lows", "_law_highs", "_law_kept", "_law_error_here"]) (sc := defScope s_law) (by decide +kernel), lamB0 (fun _ _ _ _ _ _ => rfl), fun A outer s H E f c' hr => (show PE _ _ (tBM K "list" rAppend _ _) from pe_bm PySem.F.plainAttrs_list PySem.F.slot_list_append PySem.F.type_list_append mt_append (pv 20) (pa_cons (pe_meth (pv 9) T.cl_ThresholdObserver T.me_ThresholdObserver_see_rest Gr (hr.mono (by decide)) (b_ThresholdObserver_see_rest T) .nil (passes_call (takes_of rfl rfl rfl rfl) (fun _ _ _ _ h => h)) (pa_cons (pe_ix (show IxR _ (rIxT K) from ix_tup) (pv 21) pe_int (fun _ _ => rfl)) pa_nil)) pa_nil))⟩, ?_⟩⟩
                      refine ⟨_, rfl, .inl ⟨rfl, _, SqL.of wx8.hRS⟩, _, rfl, z, dz, _, rfl, hz8, rfl, _, rfl, e, _, _, _, rfl, rfl, SqT.of he8, rfl, [x, y, R, RS], z, ac, t, o, rs, rfl, ls4, wx8.ob4, by omega, by rw [ot.b]; exact ent.1, by have := ent.2.1; omega, fun oe ex => ?_⟩
                      have ot' := ot.rest (ent.2.2.1 rfl) ent.1 ex
                      obtain ⟨good, _⟩ := ot'.good pok.lohi pok.lob pok.hib
                      refine ⟨fun bad => absurd bad good, fun _ q r H' fr hq hr' oa => ⟨RS, _, _, rfl, rfl, fr RS _ (ne_of wx8.hRS hz8 (fun z => nomatch z)) nRSac wx8.hRS, by show 0 < sizeLine; decide, by show 1 ≤ sizeLine; decide, fun pz npz => fin _ q r H' ot' fr hq hr' oa pz npz⟩⟩
                  · rintro v H9 ⟨pz, rfl, hpz, o', r, q, ot', wd9, hr9, he9, hRS9, hq9⟩
                    refine ⟨by show 1 ≤ sizeLine; decide, fun q2 nq2 => neD_self (d := .tuple [.str "none"]) (.tup (SqT.of (same_upd nq2 _ _ hpz)) (.cons (.str _) .nil)) (.tup (SqT.of upd_same) (.cons (.str _) .nil)) (by decide +kernel) ⟨_, rfl, ifF rfl ?_⟩⟩
                    have s9 := same_upd (o := .tup [.str "none"]) nq2
                    exact hD2 _ _ ⟨rfl, o', r, q, ot', wd9.same s9, s9 _ _ hr9, s9 _ _ he9, s9 _ _ hRS9, s9 _ _ hq9⟩
                · rintro σ H9 ⟨rfl, o', r, q, ot', wd9, hr9, he9, hRS9, hq9⟩
                  have hRSR := wx8.nR
                  have eS : decide (V.str (swN sw) = V.str (Str.ofString "switching")) = sw := by cases sw <;> decide
                  clear wx8 he8 ws
                  obtain ⟨qs, hR9, lq, _⟩ := id wd9.hrc
                  refine ⟨_, rfl, .inl ⟨rfl, _, SqL.of hR9⟩, _, rfl, R, _, _, rfl, rfl, hR9, by rw [List.length_map, lq]; exact Nat.lt_of_le_of_lt (by omega : rs.length ≤ 1000) (by decide), ?_⟩
                  have wd10 := wd9.snoc hR9 hr9 he9
                  have hRS10 := (upd_ne (H := H9) (o := .lst (qs.map V.ref ++ [.ref e])) hRSR).trans hRS9
                  have he10 := (upd_ne (H := H9) (o := .lst (qs.map V.ref ++ [.ref e])) (ne_of he9 hR9 (fun z => nomatch z))).trans he9
                  have hq10 := (upd_ne (H := H9) (o := .lst (qs.map V.ref ++ [.ref e])) (ne_of hq9 hR9 (fun z => nomatch z))).trans hq9
                  generalize upd H9 R _ = H10 at wd10 hRS10 he10 hq10 ⊢
                  clear wd9 hr9 he9 hRS9 hq9 hR9
                  refine ⟨_, rfl, _, rfl, e, _, _, _, rfl, rfl, SqT.of he10, rfl, by show 1 ≤ sizeLine; decide, fun l1 nl1 => ?_⟩
                  have t1 := same_upd (o := .lst [.int (t : Int)]) nl1
                  refine ⟨_, rfl, e, _, _, _, rfl, rfl, SqT.of (t1 _ _ he10), rfl, rfl, .inr ⟨_, rfl, l1, _, _, rfl, rfl, upd_same, ?_, ?_, ?_, fun l2 nl2 => ⟨TL, l2, _, _, rfl, rfl, same_upd nl2 _ _ (t1 _ _ wd10.htl), upd_same, ?_, fun TL' nTL' => ?_⟩⟩⟩
                  · split <;> decide
                  · split <;> decide
                  · rw [eS]; cases sw
                    · show 1 * 0 ≤ sizeLine; decide
                    · show 1 * 1 ≤ sizeLine; decide
                  · rw [eS, ← List.length_append, told_next ent, List.length_map, tkI_len]
                    exact Nat.le_trans (mvs_len p (t + 1)) (Nat.le_trans (Nat.succ_le_of_lt ent.2.1) (by decide))
                  have t2 := same_upd (o := .lst (List.replicate (if decide (V.str (swN sw) = V.str (Str.ofString "switching")) = true then (1 : Int) else 0).toNat [V.int (t : Int)]).flatten) nl2
                  obtain ⟨t3, w3⟩ := at_new (o := .lst ((tkI (mvs p n)).map V.int ++ (List.replicate (if decide (V.str (swN sw) = V.str (Str.ofString "switching")) = true then (1 : Int) else 0).toNat [V.int (t : Int)]).flatten)) nTL'
                  have s11 := t1.trans (t2.trans t3)
                  have wdm := wd10.same (t1.trans t2)
                  obtain ⟨_, _, _, _, _, _, _, _, hacm⟩ := id (wdm.hob.same cut_same)
                  have oTL' := off3 wdm.hlh hacm nTL'
                  obtain ⟨qs2, hRm, _⟩ := id wdm.hrc
                  have mTL' := ne_of_none' hRm nTL'
                  have wdn := wd10.same s11
                  have he11 := s11 _ _ he10
                  have hRS11 := s11 _ _ hRS10
                  have hq11 := s11 _ _ hq10
                  generalize upd (upd (upd H10 l1 _) l2 _) TL' _ = H11 at w3 wdn he11 hRS11 hq11 ⊢
                  rw [eS, told_next ent] at w3
                  have wd11 := wdn.tell w3 ⟨oTL'.1, oTL'.2.1, oTL'.2.2, mTL'⟩
                  clear wdn wdm wd10 he10 hRS10 hq10 t1 t2 t3 s11 nl1 nl2 nTL' hacm hRm w3 oTL' mTL'
                  refine ⟨_, rfl, e, _, _, _, rfl, rfl, SqT.of he11, rfl, _, _, rfl, rfl, ?_⟩
                  obtain ⟨dz, u1, lo1', hi1', hz, _, hlo1, hhi1, _⟩ := id (wd11.hob.same cut_same)
                  refine ⟨_, rfl, z, dz, _, rfl, hz, z, dz, _, .ref lo1', rfl, hz, rfl, _, rfl, z, dz, _, rfl, hz, z, dz, _, .ref hi1', rfl, hz, rfl, _, _, rfl, ?_⟩
                  dsimp only [List.set_cons_succ, List.set_cons_zero]
                  refine ⟨_, rfl, _, rfl, lo1', _, _, _, rfl, rfl, SqT.of hlo1, rfl, _, rfl, lo1', _, _, _, rfl, rfl, SqT.of hlo1, rfl, _, _, rfl, rfl, _, _, rfl, rfl, _, rfl, hi1', _, _, _, rfl, rfl, SqT.of hhi1, rfl, _, rfl, hi1', _, _, _, rfl, rfl, SqT.of hhi1, rfl, _, _, rfl, rfl, _, _, rfl, rfl, by show 2 ≤ sizeLine; decide, fun q3 nq3 => ⟨by show 1 ≤ sizeLine; decide, fun l3 nl3 => ?_⟩⟩
                  have t1 := same_upd (o := .tup [.int (o'.l1 - o'.l0 + 1), .int (o'.h1 - o'.h0 + 1)]) nq3
                  have t2 := same_upd (o := .lst [.ref q3]) nl3
                  refine neD_self (d := .list [.tuple [.int (o'.l1 - o'.l0 + 1), .int (o'.h1 - o'.h0 + 1)]]) (.lst (SqL.of ((t1.trans t2) _ _ hRS11)) (.cons (.tup (SqT.of ((t1.trans t2) _ _ hq11)) (.cons (.int _) (.cons (.int _) .nil))) .nil)) (.lst (SqL.of upd_same) (.cons (.tup (SqT.of (t2 _ _ upd_same)) (.cons (.int _) (.cons (.int _) .nil))) .nil)) ((Sh.list (sh_cons (Sh.tup (n := 0) (sh_cons Sh.int (sh_cons Sh.int sh_nil))) sh_nil)).shaped) ⟨_, rfl, ifF rfl ?_⟩
                  have wd12 := wd11.same (t1.trans t2)
                  have hlo12 := (t1.trans t2) _ _ hlo1
                  have hhi12 := (t1.trans t2) _ _ hhi1
                  have hz12 := (t1.trans t2) _ _ hz
                  generalize upd (upd H11 q3 _) l3 _ = H12 at wd12 hlo12 hhi12 hz12 ⊢
                  clear wd11 he11 hRS11 hq11 hlo1 hhi1 hz t1 t2 nq3 nl3
                  refine ⟨_, rfl, z, dz, _, rfl, hz12, z, ac, o', _, rfl, wd12.hob.same cut_same, _, rfl, rfl, _, rfl, ifF (ndF (congrArg V.int (by rw [ot'.b]; rfl))) ?_⟩
                  obtain ⟨_, g0, g1', g2', g3⟩ := ot'.good pok.lohi pok.lob pok.hib
                  rw [plo] at g0 g1'
                  rw [phi] at g2' g3
                  refine ⟨_, rfl, lo1', _, _, _, rfl, rfl, SqT.of hlo12, rfl, _, rfl, _, _, rfl, rfl, _, rfl, ifT (dT g0) ⟨_, rfl, lo1', _, _, _, rfl, rfl, SqT.of hlo12, rfl, _, _, rfl, rfl, _, rfl, ?_⟩⟩
                  refine ifF (nF g1') ?_
                  refine ⟨_, rfl, hi1', _, _, _, rfl, rfl, SqT.of hhi12, rfl, _, rfl, _, _, rfl, rfl, _, rfl, ifT (dT g2') ⟨_, rfl, hi1', _, _, _, rfl, rfl, SqT.of hhi12, rfl, _, _, rfl, rfl, _, rfl, ?_⟩⟩
                  refine ifF (nF g3) ?_
                  refine ⟨_, rfl, _, rfl, by show 2 ≤ sizeLine; decide, fun l4 nl4 => ?_⟩
                  have t4 := same_upd (o := .lst [.ref lo1', .ref hi1']) nl4
                  refine ⟨_, rfl, _, rfl, _, rfl, lf, L, p, 120, t + 1, rfl, ent.2.1, by decide, t4 _ _ wd12.hdg, t4 _ _ wd12.hst, fun zz xx yy H13 s13 hzz hxx hyy => ?_⟩
                  have s4 := t4.trans s13
                  have er : rg p (t + 1) = ⟨o'.l0, o'.l1, o'.h0, o'.h1⟩ := ot'.r.symm
                  rw [er] at hxx hyy
                  refine ⟨_, _, rfl, pair_alike (s13 _ _ upd_same) hzz (s4 _ _ hlo12) (s4 _ _ hhi12) hxx hyy, fun H14 s14 => ⟨_, rfl, ifF rfl ?_⟩⟩
                  have s5 := s4.trans s14
                  have wd14 := wd12.same s5
                  refine ⟨_, rfl, _, rfl, _, rfl, _, rfl, _, _, rfl, rfl, _, rfl, _, rfl, tc, ts, TL', lo1', hi1', p, t + 1, rfl, pok.n1, pok.g1, pok.g200, by have := ent.2.1; omega, pok.lohi, pok.lob, pok.hib, wd14.htc, wd14.hts, wd14.htl, by rw [er]; exact s5 _ _ hlo12, by rw [er]; exact s5 _ _ hhi12, fun H15 s15 => ⟨_, rfl, ifF rfl ?_⟩⟩
                  exact hD' _ _ ⟨t + 1, o', rs ++ [r], TL', _, rfl, rfl, ot', wd14.same s15, by rw [List.length_append]; show rs.length + 1 ≤ i + 1; omega, ent.2.1⟩
              · rintro σ H9 ⟨n', o', rs', TL', vs, rfl, lvs, ot', wd9, lrs', n120'⟩
                match vs, lvs with
                | [u16, u17, u18, u19, u20, u21, u22, u23, u24, u25, u26], _ =>
                clear lvs
                have ob9 := wd9.hob.same cut_same
                obtain ⟨dz, u1, lo1', hi1', hz, _, hlo1, hhi1, _⟩ := id ob9
                refine ⟨_, rfl, z, dz, _, rfl, hz, z, dz, _, .ref lo1', rfl, hz, rfl, _, rfl, z, dz, _, rfl, hz, z, dz, _, .ref hi1', rfl, hz, rfl, _, rfl, z, dz, _, rfl, hz, z, ac, o', rs', rfl, ob9, by show 3 ≤ sizeLine; decide, fun kp nkp => ?_⟩
                have s10 := same_upd (o := .lst [.ref lo1', .ref hi1', .int o'.b]) nkp
                have wd10 := wd9.same s10
                have hkp := upd_same (H := H9) (a := kp) (o := .lst [.ref lo1', .ref hi1', .int o'.b])
                generalize upd H9 kp _ = H10 at s10 wd10 hkp ⊢
                have ob10 := ob9.same s10
                have hz10 := s10 _ _ hz
                have hlo10 := s10 _ _ hlo1
                have hhi10 := s10 _ _ hhi1
                clear wd9 ob9 hz hlo1 hhi1 nkp s10
                dsimp only
                refine g_unf ?_
                dsimp only [List.set_cons_succ, List.set_cons_zero]
                refine ⟨wd10.htb, fun f4 H11 e11 tb11 _ la4 => give_work (xs := [.str "number"]) ?_ (fun pe H12 s12 hpe => ?_)⟩
                · refine work_err 2 (by decide) la4 ⟨lamS2_by (N := ["_law_script", "_law_h", "_law_changes_here", "_law_setting_here", "_law_gain", "_law_low", "_law_high", "_law_start", "_law_heating", "_law_observer", "_law_degrees", "_law_states", "_law_told_here", "_law_records", "_law_seen", "_law_moves", "_law_tick", "_law_time", "_law_ahead", "_law_last", "_law_results", "_law_entry", "_law_calls", "_law_lows", "_law_highs", "_law_kept", "_law_error_here"]) (sc := defScope s_law) (by decide +kernel), lamB0 (fun _ _ _ _ _ _ => rfl), fun A outer s H E f c' hr => (pe_meth (pv 9) T.cl_ThresholdObserver T.me_ThresholdObserver_see_switching Gx (hr.mono (by decide)) (b_ThresholdObserver_see_switching T) .nil (passes_call (takes_of rfl rfl rfl rfl) (fun _ _ _ _ h => h)) (pa_cons (pe_op op_sub (pv 14) pe_int) pa_nil))⟩ (fun H' E Q s go => ?_)
                  exact ⟨_, rfl, z, dz, _, rfl, s _ _ (e11 _ _ hz10 (fun _ z => nomatch z)), rfl, _, rfl, _, _, rfl, rfl, z, ac, o', rs', (n' : Int) - 1, rfl, (ob10.ext e11).same s, by rw [ot'.b]; omega, go _ (Same.refl _)⟩
                · have wd12 := (wd10.ext e11 tb11).same s12
                  have f12 : ∀ {b : Addr} {u : HO}, H10 b = some u → (∀ ps, u ≠ .tbl ps) → H12 b = some u := fun {b u} e n => s12 _ _ (e11 _ _ e n)
                  have hz12 := f12 hz10 (fun _ z => nomatch z)
                  have hlo12 := f12 hlo10 (fun _ z => nomatch z)
                  have hhi12 := f12 hhi10 (fun _ z => nomatch z)
                  have hkp12 := f12 hkp (fun _ z => nomatch z)
                  have ob12 := (ob10.ext e11).same s12
                  clear wd10 hz10 hlo10 hhi10 hkp ob10 f12 e11 s12
                  refine ⟨_, rfl, by show 1 ≤ sizeLine; decide, fun q5 nq5 => ?_⟩
                  have t5 := same_upd (o := .tup [.str "number"]) nq5
                  refine neD_self (d := .tuple [.str "number"]) (.tup (SqT.of (t5 _ _ hpe)) (.cons (.str _) .nil)) (.tup (SqT.of upd_same) (.cons (.str _) .nil)) (by decide +kernel) ⟨_, rfl, ifF rfl ?_⟩
                  have hz13 := t5 _ _ hz12
                  refine ⟨_, rfl, z, dz, _, rfl, hz13, z, dz, _, .ref lo1', rfl, hz13, rfl, _, rfl, z, dz, _, rfl, hz13, z, dz, _, .ref hi1', rfl, hz13, rfl, _, rfl, z, dz, _, rfl, hz13, z, ac, o', rs', rfl, ob12.same t5, by show 3 ≤ sizeLine; decide, fun l5 nl5 => ⟨_, rfl, ?_⟩⟩
                  have t6 := same_upd (o := .lst [.ref lo1', .ref hi1', .int o'.b]) nl5
                  have dl : ∀ {H : Hp} {l : Addr}, H l = some (.lst [.ref lo1', .ref hi1', .int o'.b]) → H lo1' = some (.tup [.int o'.l0, .int o'.l1]) → H hi1' = some (.tup [.int o'.h0, .int o'.h1]) → Dp K H (.ref l) (.list [.tuple [.int o'.l0, .int o'.l1], .tuple [.int o'.h0, .int o'.h1], .int o'.b]) := fun {H l} e1 e2 e3 => .lst (SqL.of e1) (.cons (.tup (SqT.of e2) (.cons (.int _) (.cons (.int _) .nil))) (.cons (.tup (SqT.of e3) (.cons (.int _) (.cons (.int _) .nil))) (.cons (.int _) .nil)))
                  have s6 := t5.trans t6
                  refine neD_self (dl upd_same (s6 _ _ hlo12) (s6 _ _ hhi12)) (dl (s6 _ _ hkp12) (s6 _ _ hlo12) (s6 _ _ hhi12)) ((Sh.list (n := 1) (sh_cons (Sh.tup (n := 0) (sh_cons Sh.int (sh_cons Sh.int sh_nil))) (sh_cons (Sh.tup (n := 0) (sh_cons Sh.int (sh_cons Sh.int sh_nil))) (sh_cons Sh.int sh_nil)))).shaped) ⟨_, rfl, ifF rfl ?_⟩
                  exact ⟨n', o', rs', TL', _, rfl, rfl, ot', wd12.same s6, lrs', n120'⟩
        · rintro σ H' ⟨n, o, rs, TL, vs, rfl, lvs, ot, wd, lrs, n120⟩
          have ob9 := wd.hob.same cut_same
          obtain ⟨dz, _, _, _, hz, _⟩ := id ob9
          refine ⟨_, rfl, z, dz, _, rfl, hz, z, ac, o, rs, rfl, ob9, by omega, fun l H9 s9 hl9 => ?_⟩
          refine ⟨_, rfl, _, _, rfl, recs_alike (wd.same s9).hrc hl9 (by omega), fun H10 s10 => k _⟩
end
end W6

namespace W6
open PySem PySem.Spec PyProof.Rows L2 Ru StX LamX
def erA (K : PySem.W.Frag) : Er := ⟨fun j => He.ga K (erCls j), He.ga K "WarmthError", He.ma K (He.ga K "InvalidWeather") "__init__"⟩
theorem erT_of {P : Program} {K : PySem.W.Frag} {h : Heap} {mg : Str → Option Value} (X : K.In h) (G : h.Ns mainGlobals mg) (b : (erL K P.main.file).all id = true) (x : Hq2.moX K (He.ma K (He.ga K "InvalidWeather") "__init__") = Hq2.mvX "__init__" "InvalidWeather.__init__" s_IX_InvalidWeather)
    (top : (P.main.scope.names.lookup ("super" : Str)).isSome = false) : ErT P K mg (erA K) := by
  have at_ : ∀ (i : Nat) (c : Bool), (erL K P.main.file)[i]? = some c → c = true := fun i c e => List.all_eq_true.mp b c (List.mem_of_getElem? e)
  have g : ∀ j : Fin 5, mg (erCls j) = some (.ref (He.ga K (erCls j))) := fun j => PySem.W.mg_of X G (He.eqO_ok (List.all_eq_true.mp (at_ 1 _ rfl) j (in_fiveE j)))
  have ex : ∀ j : Fin 5, ExcC K (He.ga K (erCls j)) := fun j => Hq2.excB_ok (List.all_eq_true.mp (at_ 5 _ rfl) j (in_fiveE j))
  have kit : ∀ i j : Fin 5, PySem.W.kitOne K (.ref (He.ga K (erCls j))) (.ref (He.ga K (erCls i))) = some (decide (i = j)) := fun i j => of_decide_eq_true (List.all_eq_true.mp (List.all_eq_true.mp (at_ 6 _ rfl) i (in_fiveE i)) j (in_fiveE j))
  have kitV : ∀ j : Fin 5, PySem.W.kitOne K (.ref (He.ga K (erCls j))) (.type "ValueError") = some true := fun j => of_decide_eq_true (List.all_eq_true.mp (at_ 7 _ rfl) j (in_fiveE j))
  have exm : ∀ j : Fin 5, PySem.W.exmOne K (.ref (He.ga K (erCls j))) (.ref (He.ga K "WarmthError")) = some true := fun j => of_decide_eq_true (List.all_eq_true.mp (at_ 8 _ rfl) j (in_fiveE j))
  have hix : Hq2.ixB K (He.ga K "InvalidWeather") = true := at_ 4 _ rfl
  obtain ⟨b1, hix⟩ := He.ba hix
  obtain ⟨b2, hix⟩ := He.ba hix
  obtain ⟨b3, hix⟩ := He.ba hix
  obtain ⟨b4, hix⟩ := He.ba hix
  obtain ⟨b5, hix⟩ := He.ba hix
  obtain ⟨b6, hix⟩ := He.ba hix
  obtain ⟨b7, hix⟩ := He.ba hix
  obtain ⟨b8, hix⟩ := He.ba hix
  obtain ⟨b9, hix⟩ := He.ba hix
  obtain ⟨b10, b11⟩ := He.ba hix
  obtain ⟨oc, od, doc, pm, an, cda, cc, ct, osl, lk, co, ⟨ccl, cdd, vs, ccs, tf, hcode, hvs⟩, hcell⟩ := Hq2.mx_ok x (at_ 9 _ rfl) (at_ 10 _ rfl) (at_ 11 _ rfl)
  have e3 := ex 3
  exact {
    g_WarmthError := PySem.W.mg_of X G (He.eqO_ok (at_ 0 _ rfl))
    g_Contradiction := g 0
    g_InvalidHeater := g 1
    g_InvalidNumber := g 2
    g_InvalidWeather := g 3
    g_OtherWeather := g 4
    z_ValueError := PySem.W.mg_none_of X G (He.eqO_ok (at_ 2 _ rfl))
    ix := {
      gC := g 3
      cls := Hq2.ixClsB_ok b1
      sa := He.eqO_ok b2
      ga := e3.hg
      gg := e3.hk
      noN := He.eqO_ok b3
      iC := He.eqO_ok b4
      tC := of_decide_eq_true b5
      kC := b6
      exC := e3.hs
      tyC := of_decide_eq_true b7
      hdC := e3.hd
      mr := of_decide_eq_true b8
      su := He.eqO_ok b9
      ve := of_decide_eq_true b10
      any := He.eqO_ok b11
      noS := PySem.W.mg_none_of X G (He.eqO_ok (at_ 3 _ rfl))
      top := top
      fn := ⟨oc, od, "InvalidWeather.__init__", doc, pm, an, cda, cc, ct, osl, _, _, _, _, _, _, _, _, _, _, _, _, _, _, _, _, _, by rfl, lk, co, by decide, ⟨ccl, cdd, vs, ccs, _, tf, hcode, hvs, by simp⟩, hcell⟩ }
    ex := ex
    kit := kit
    kitV := kitV
    exm := exm }
theorem erX_of {K : PySem.W.Frag} (b : (exL K).all id = true) : ErX K (erA K) := by
  have at_ : ∀ (i : Nat) (c : Bool), (exL K)[i]? = some c → c = true := fun i c e => List.all_eq_true.mp b c (List.mem_of_getElem? e)
  exact ⟨fun j nj => List.all_eq_true.mp (at_ 0 _ rfl) j (in_fourE j nj), fun j => List.all_eq_true.mp (at_ 1 _ rfl) j (in_fiveE j), fun j => of_decide_eq_true (List.all_eq_true.mp (at_ 2 _ rfl) j (in_fiveE j)), fun j => of_decide_eq_true (List.all_eq_true.mp (at_ 3 _ rfl) j (in_fiveE j))⟩
end W6

namespace W6
open PySem PySem.Spec PyProof.Rows L2 Ru StX
theorem h_ns_Drift {h : Heap} {K : PySem.W.Frag} (c : Hq2.Says hS h K) : PySem.W.nsIn K mainGlobals "Drift" = some (some (.ref (He.ga K "Drift"))) := He.eqO_ok (c.fact 0 rfl)
theorem h_pg_Drift {h : Heap} {K : PySem.W.Frag} (c : Hq2.Says hS h K) : PySem.W.plainGet K (He.ga K "Drift") Str.empty = true := id (c.fact 1 rfl)
theorem h_hd_Drift {h : Heap} {K : PySem.W.Frag} (c : Hq2.Says hS h K) : PySem.W.hasDictIn K (He.ga K "Drift") = true := id (c.fact 2 rfl)
theorem h_po_Drift {h : Heap} {K : PySem.W.Frag} (c : Hq2.Says hS h K) : PySem.W.plainOver K (He.ga K "Drift") = true := id (c.fact 3 rfl)
theorem h_sa_Drift {h : Heap} {K : PySem.W.Frag} (c : Hq2.Says hS h K) : PySem.W.findIn K (.ref (He.ga K "Drift")) "__setattr__" = some (some (.builtin "object.__setattr__")) := He.eqO_ok (c.fact 4 rfl)
theorem h_na_Drift_round_ticks {h : Heap} {K : PySem.W.Frag} (c : Hq2.Says hS h K) : PySem.W.findIn K (.ref (He.ga K "Drift")) "round_ticks" = some none := He.eqO_ok (c.fact 5 rfl)
theorem h_na_Drift_round_sum {h : Heap} {K : PySem.W.Frag} (c : Hq2.Says hS h K) : PySem.W.findIn K (.ref (He.ga K "Drift")) "round_sum" = some none := He.eqO_ok (c.fact 6 rfl)
theorem h_na_Drift__sums {h : Heap} {K : PySem.W.Frag} (c : Hq2.Says hS h K) : PySem.W.findIn K (.ref (He.ga K "Drift")) "_sums" = some none := He.eqO_ok (c.fact 7 rfl)
theorem h_ns_Stretch {h : Heap} {K : PySem.W.Frag} (c : Hq2.Says hS h K) : PySem.W.nsIn K mainGlobals "Stretch" = some (some (.ref (He.ga K "Stretch"))) := He.eqO_ok (c.fact 8 rfl)
theorem h_pg_Stretch {h : Heap} {K : PySem.W.Frag} (c : Hq2.Says hS h K) : PySem.W.plainGet K (He.ga K "Stretch") Str.empty = true := id (c.fact 9 rfl)
theorem h_hd_Stretch {h : Heap} {K : PySem.W.Frag} (c : Hq2.Says hS h K) : PySem.W.hasDictIn K (He.ga K "Stretch") = true := id (c.fact 10 rfl)
theorem h_po_Stretch {h : Heap} {K : PySem.W.Frag} (c : Hq2.Says hS h K) : PySem.W.plainOver K (He.ga K "Stretch") = true := id (c.fact 11 rfl)
theorem h_sa_Stretch {h : Heap} {K : PySem.W.Frag} (c : Hq2.Says hS h K) : PySem.W.findIn K (.ref (He.ga K "Stretch")) "__setattr__" = some (some (.builtin "object.__setattr__")) := He.eqO_ok (c.fact 12 rfl)
theorem h_na_Stretch_on {h : Heap} {K : PySem.W.Frag} (c : Hq2.Says hS h K) : PySem.W.findIn K (.ref (He.ga K "Stretch")) "on" = some none := He.eqO_ok (c.fact 13 rfl)
theorem h_na_Stretch_begin {h : Heap} {K : PySem.W.Frag} (c : Hq2.Says hS h K) : PySem.W.findIn K (.ref (He.ga K "Stretch")) "begin" = some none := He.eqO_ok (c.fact 14 rfl)
theorem h_na_Stretch__drifts {h : Heap} {K : PySem.W.Frag} (c : Hq2.Says hS h K) : PySem.W.findIn K (.ref (He.ga K "Stretch")) "_drifts" = some none := He.eqO_ok (c.fact 15 rfl)
theorem h_na_Stretch__drift {h : Heap} {K : PySem.W.Frag} (c : Hq2.Says hS h K) : PySem.W.findIn K (.ref (He.ga K "Stretch")) "_drift" = some none := He.eqO_ok (c.fact 16 rfl)
theorem h_na_Stretch__base {h : Heap} {K : PySem.W.Frag} (c : Hq2.Says hS h K) : PySem.W.findIn K (.ref (He.ga K "Stretch")) "_base" = some none := He.eqO_ok (c.fact 17 rfl)
theorem h_ns_Weather {h : Heap} {K : PySem.W.Frag} (c : Hq2.Says hS h K) : PySem.W.nsIn K mainGlobals "Weather" = some (some (.ref (He.ga K "Weather"))) := He.eqO_ok (c.fact 18 rfl)
theorem h_pg_Weather {h : Heap} {K : PySem.W.Frag} (c : Hq2.Says hS h K) : PySem.W.plainGet K (He.ga K "Weather") Str.empty = true := id (c.fact 19 rfl)
theorem h_hd_Weather {h : Heap} {K : PySem.W.Frag} (c : Hq2.Says hS h K) : PySem.W.hasDictIn K (He.ga K "Weather") = true := id (c.fact 20 rfl)
theorem h_po_Weather {h : Heap} {K : PySem.W.Frag} (c : Hq2.Says hS h K) : PySem.W.plainOver K (He.ga K "Weather") = true := id (c.fact 21 rfl)
theorem h_sa_Weather {h : Heap} {K : PySem.W.Frag} (c : Hq2.Says hS h K) : PySem.W.findIn K (.ref (He.ga K "Weather")) "__setattr__" = some (some (.builtin "object.__setattr__")) := He.eqO_ok (c.fact 22 rfl)
theorem h_na_Weather__changes {h : Heap} {K : PySem.W.Frag} (c : Hq2.Says hS h K) : PySem.W.findIn K (.ref (He.ga K "Weather")) "_changes" = some none := He.eqO_ok (c.fact 23 rfl)
theorem h_ns_ThresholdObserver {h : Heap} {K : PySem.W.Frag} (c : Hq2.Says hS h K) : PySem.W.nsIn K mainGlobals "ThresholdObserver" = some (some (.ref (He.ga K "ThresholdObserver"))) := He.eqO_ok (c.fact 24 rfl)
theorem h_pg_ThresholdObserver {h : Heap} {K : PySem.W.Frag} (c : Hq2.Says hS h K) : PySem.W.plainGet K (He.ga K "ThresholdObserver") Str.empty = true := id (c.fact 25 rfl)
theorem h_hd_ThresholdObserver {h : Heap} {K : PySem.W.Frag} (c : Hq2.Says hS h K) : PySem.W.hasDictIn K (He.ga K "ThresholdObserver") = true := id (c.fact 26 rfl)
theorem h_po_ThresholdObserver {h : Heap} {K : PySem.W.Frag} (c : Hq2.Says hS h K) : PySem.W.plainOver K (He.ga K "ThresholdObserver") = true := id (c.fact 27 rfl)
theorem h_sa_ThresholdObserver {h : Heap} {K : PySem.W.Frag} (c : Hq2.Says hS h K) : PySem.W.findIn K (.ref (He.ga K "ThresholdObserver")) "__setattr__" = some (some (.builtin "object.__setattr__")) := He.eqO_ok (c.fact 28 rfl)
theorem h_na_ThresholdObserver__unseen {h : Heap} {K : PySem.W.Frag} (c : Hq2.Says hS h K) : PySem.W.findIn K (.ref (He.ga K "ThresholdObserver")) "_unseen" = some none := He.eqO_ok (c.fact 29 rfl)
theorem h_na_ThresholdObserver__lows {h : Heap} {K : PySem.W.Frag} (c : Hq2.Says hS h K) : PySem.W.findIn K (.ref (He.ga K "ThresholdObserver")) "_lows" = some none := He.eqO_ok (c.fact 30 rfl)
theorem h_na_ThresholdObserver__highs {h : Heap} {K : PySem.W.Frag} (c : Hq2.Says hS h K) : PySem.W.findIn K (.ref (He.ga K "ThresholdObserver")) "_highs" = some none := He.eqO_ok (c.fact 31 rfl)
theorem h_na_ThresholdObserver__accepted {h : Heap} {K : PySem.W.Frag} (c : Hq2.Says hS h K) : PySem.W.findIn K (.ref (He.ga K "ThresholdObserver")) "_accepted" = some none := He.eqO_ok (c.fact 32 rfl)
theorem h_at_first_invalid {h : Heap} {K : PySem.W.Frag} (c : Hq2.Says hS h K) : PySem.W.nsIn K mainGlobals "first_invalid" = some (some (.ref (He.ga K "first_invalid"))) := He.eqO_ok (c.fact 33 rfl)
theorem h_kp_first_invalid {h : Heap} {K : PySem.W.Frag} (c : Hq2.Says hS h K) : PySem.W.keepIn K (.ref (He.ga K "first_invalid")) = true := id (c.fact 34 rfl)
theorem h_at_Drift_init {h : Heap} {K : PySem.W.Frag} (c : Hq2.Says hS h K) : PySem.W.findIn K (.ref (He.ga K "Drift")) "__init__" = some (some (.ref (He.ma K (He.ga K "Drift") "__init__"))) := He.eqO_ok (c.fact 35 rfl)
theorem h_fn_Drift_init {h : Heap} {K : PySem.W.Frag} (c : Hq2.Says hS h K) : PySem.W.isFn K (.ref (He.ma K (He.ga K "Drift") "__init__")) = true := id (c.fact 36 rfl)
theorem h_kp_Drift_init {h : Heap} {K : PySem.W.Frag} (c : Hq2.Says hS h K) : PySem.W.keepIn K (.ref (He.ma K (He.ga K "Drift") "__init__")) = true := id (c.fact 37 rfl)
theorem h_mk_Drift {h : Heap} {K : PySem.W.Frag} (c : Hq2.Says hS h K) : PySem.W.makesIn K (He.ga K "Drift") = true := id (c.fact 38 rfl)
theorem h_kc_Drift {h : Heap} {K : PySem.W.Frag} (c : Hq2.Says hS h K) : PySem.W.keepIn K (.ref (He.ga K "Drift")) = true := id (c.fact 39 rfl)
theorem h_at_Drift_sum_to {h : Heap} {K : PySem.W.Frag} (c : Hq2.Says hS h K) : PySem.W.findIn K (.ref (He.ga K "Drift")) "sum_to" = some (some (.ref (He.ma K (He.ga K "Drift") "sum_to"))) := He.eqO_ok (c.fact 40 rfl)
theorem h_fn_Drift_sum_to {h : Heap} {K : PySem.W.Frag} (c : Hq2.Says hS h K) : PySem.W.isFn K (.ref (He.ma K (He.ga K "Drift") "sum_to")) = true := id (c.fact 41 rfl)
theorem h_kp_Drift_sum_to {h : Heap} {K : PySem.W.Frag} (c : Hq2.Says hS h K) : PySem.W.keepIn K (.ref (He.ma K (He.ga K "Drift") "sum_to")) = true := id (c.fact 42 rfl)
theorem h_at_both_drifts {h : Heap} {K : PySem.W.Frag} (c : Hq2.Says hS h K) : PySem.W.nsIn K mainGlobals "both_drifts" = some (some (.ref (He.ga K "both_drifts"))) := He.eqO_ok (c.fact 43 rfl)
theorem h_kp_both_drifts {h : Heap} {K : PySem.W.Frag} (c : Hq2.Says hS h K) : PySem.W.keepIn K (.ref (He.ga K "both_drifts")) = true := id (c.fact 44 rfl)
theorem h_at_Stretch_init {h : Heap} {K : PySem.W.Frag} (c : Hq2.Says hS h K) : PySem.W.findIn K (.ref (He.ga K "Stretch")) "__init__" = some (some (.ref (He.ma K (He.ga K "Stretch") "__init__"))) := He.eqO_ok (c.fact 45 rfl)
theorem h_fn_Stretch_init {h : Heap} {K : PySem.W.Frag} (c : Hq2.Says hS h K) : PySem.W.isFn K (.ref (He.ma K (He.ga K "Stretch") "__init__")) = true := id (c.fact 46 rfl)
theorem h_kp_Stretch_init {h : Heap} {K : PySem.W.Frag} (c : Hq2.Says hS h K) : PySem.W.keepIn K (.ref (He.ma K (He.ga K "Stretch") "__init__")) = true := id (c.fact 47 rfl)
theorem h_mk_Stretch {h : Heap} {K : PySem.W.Frag} (c : Hq2.Says hS h K) : PySem.W.makesIn K (He.ga K "Stretch") = true := id (c.fact 48 rfl)
theorem h_kc_Stretch {h : Heap} {K : PySem.W.Frag} (c : Hq2.Says hS h K) : PySem.W.keepIn K (.ref (He.ga K "Stretch")) = true := id (c.fact 49 rfl)
theorem h_at_Stretch_degrees_at {h : Heap} {K : PySem.W.Frag} (c : Hq2.Says hS h K) : PySem.W.findIn K (.ref (He.ga K "Stretch")) "degrees_at" = some (some (.ref (He.ma K (He.ga K "Stretch") "degrees_at"))) := He.eqO_ok (c.fact 50 rfl)
theorem h_fn_Stretch_degrees_at {h : Heap} {K : PySem.W.Frag} (c : Hq2.Says hS h K) : PySem.W.isFn K (.ref (He.ma K (He.ga K "Stretch") "degrees_at")) = true := id (c.fact 51 rfl)
theorem h_kp_Stretch_degrees_at {h : Heap} {K : PySem.W.Frag} (c : Hq2.Says hS h K) : PySem.W.keepIn K (.ref (He.ma K (He.ga K "Stretch") "degrees_at")) = true := id (c.fact 52 rfl)
theorem h_at_Stretch_continued {h : Heap} {K : PySem.W.Frag} (c : Hq2.Says hS h K) : PySem.W.findIn K (.ref (He.ga K "Stretch")) "continued" = some (some (.ref (He.ma K (He.ga K "Stretch") "continued"))) := He.eqO_ok (c.fact 53 rfl)
theorem h_fn_Stretch_continued {h : Heap} {K : PySem.W.Frag} (c : Hq2.Says hS h K) : PySem.W.isFn K (.ref (He.ma K (He.ga K "Stretch") "continued")) = true := id (c.fact 54 rfl)
theorem h_kp_Stretch_continued {h : Heap} {K : PySem.W.Frag} (c : Hq2.Says hS h K) : PySem.W.keepIn K (.ref (He.ma K (He.ga K "Stretch") "continued")) = true := id (c.fact 55 rfl)
theorem h_at_Stretch_switched {h : Heap} {K : PySem.W.Frag} (c : Hq2.Says hS h K) : PySem.W.findIn K (.ref (He.ga K "Stretch")) "switched" = some (some (.ref (He.ma K (He.ga K "Stretch") "switched"))) := He.eqO_ok (c.fact 56 rfl)
theorem h_fn_Stretch_switched {h : Heap} {K : PySem.W.Frag} (c : Hq2.Says hS h K) : PySem.W.isFn K (.ref (He.ma K (He.ga K "Stretch") "switched")) = true := id (c.fact 57 rfl)
theorem h_kp_Stretch_switched {h : Heap} {K : PySem.W.Frag} (c : Hq2.Says hS h K) : PySem.W.keepIn K (.ref (He.ma K (He.ga K "Stretch") "switched")) = true := id (c.fact 58 rfl)
theorem h_at_Stretch_extreme_before {h : Heap} {K : PySem.W.Frag} (c : Hq2.Says hS h K) : PySem.W.findIn K (.ref (He.ga K "Stretch")) "extreme_before" = some (some (.ref (He.ma K (He.ga K "Stretch") "extreme_before"))) := He.eqO_ok (c.fact 59 rfl)
theorem h_fn_Stretch_extreme_before {h : Heap} {K : PySem.W.Frag} (c : Hq2.Says hS h K) : PySem.W.isFn K (.ref (He.ma K (He.ga K "Stretch") "extreme_before")) = true := id (c.fact 60 rfl)
theorem h_kp_Stretch_extreme_before {h : Heap} {K : PySem.W.Frag} (c : Hq2.Says hS h K) : PySem.W.keepIn K (.ref (He.ma K (He.ga K "Stretch") "extreme_before")) = true := id (c.fact 61 rfl)
theorem h_at_more_extreme {h : Heap} {K : PySem.W.Frag} (c : Hq2.Says hS h K) : PySem.W.nsIn K mainGlobals "more_extreme" = some (some (.ref (He.ga K "more_extreme"))) := He.eqO_ok (c.fact 62 rfl)
theorem h_kp_more_extreme {h : Heap} {K : PySem.W.Frag} (c : Hq2.Says hS h K) : PySem.W.keepIn K (.ref (He.ga K "more_extreme")) = true := id (c.fact 63 rfl)
theorem h_at_check_number {h : Heap} {K : PySem.W.Frag} (c : Hq2.Says hS h K) : PySem.W.nsIn K mainGlobals "check_number" = some (some (.ref (He.ga K "check_number"))) := He.eqO_ok (c.fact 64 rfl)
theorem h_kp_check_number {h : Heap} {K : PySem.W.Frag} (c : Hq2.Says hS h K) : PySem.W.keepIn K (.ref (He.ga K "check_number")) = true := id (c.fact 65 rfl)
theorem h_at_Weather_init {h : Heap} {K : PySem.W.Frag} (c : Hq2.Says hS h K) : PySem.W.findIn K (.ref (He.ga K "Weather")) "__init__" = some (some (.ref (He.ma K (He.ga K "Weather") "__init__"))) := He.eqO_ok (c.fact 66 rfl)
theorem h_fn_Weather_init {h : Heap} {K : PySem.W.Frag} (c : Hq2.Says hS h K) : PySem.W.isFn K (.ref (He.ma K (He.ga K "Weather") "__init__")) = true := id (c.fact 67 rfl)
theorem h_kp_Weather_init {h : Heap} {K : PySem.W.Frag} (c : Hq2.Says hS h K) : PySem.W.keepIn K (.ref (He.ma K (He.ga K "Weather") "__init__")) = true := id (c.fact 68 rfl)
theorem h_mk_Weather {h : Heap} {K : PySem.W.Frag} (c : Hq2.Says hS h K) : PySem.W.makesIn K (He.ga K "Weather") = true := id (c.fact 69 rfl)
theorem h_kc_Weather {h : Heap} {K : PySem.W.Frag} (c : Hq2.Says hS h K) : PySem.W.keepIn K (.ref (He.ga K "Weather")) = true := id (c.fact 70 rfl)
theorem h_at_check_gain {h : Heap} {K : PySem.W.Frag} (c : Hq2.Says hS h K) : PySem.W.nsIn K mainGlobals "check_gain" = some (some (.ref (He.ga K "check_gain"))) := He.eqO_ok (c.fact 71 rfl)
theorem h_kp_check_gain {h : Heap} {K : PySem.W.Frag} (c : Hq2.Says hS h K) : PySem.W.keepIn K (.ref (He.ga K "check_gain")) = true := id (c.fact 72 rfl)
theorem h_at_ThresholdObserver_init {h : Heap} {K : PySem.W.Frag} (c : Hq2.Says hS h K) : PySem.W.findIn K (.ref (He.ga K "ThresholdObserver")) "__init__" = some (some (.ref (He.ma K (He.ga K "ThresholdObserver") "__init__"))) := He.eqO_ok (c.fact 73 rfl)
theorem h_fn_ThresholdObserver_init {h : Heap} {K : PySem.W.Frag} (c : Hq2.Says hS h K) : PySem.W.isFn K (.ref (He.ma K (He.ga K "ThresholdObserver") "__init__")) = true := id (c.fact 74 rfl)
theorem h_kp_ThresholdObserver_init {h : Heap} {K : PySem.W.Frag} (c : Hq2.Says hS h K) : PySem.W.keepIn K (.ref (He.ma K (He.ga K "ThresholdObserver") "__init__")) = true := id (c.fact 75 rfl)
theorem h_kd_ThresholdObserver_init {h : Heap} {K : PySem.W.Frag} (c : Hq2.Says hS h K) : PySem.W.nsIn K (Hq.kwA K (He.ma K (He.ga K "ThresholdObserver") "__init__")) "on" = some (some (.bool false)) := He.eqO_ok (c.fact 76 rfl)
theorem h_mk_ThresholdObserver {h : Heap} {K : PySem.W.Frag} (c : Hq2.Says hS h K) : PySem.W.makesIn K (He.ga K "ThresholdObserver") = true := id (c.fact 77 rfl)
theorem h_kc_ThresholdObserver {h : Heap} {K : PySem.W.Frag} (c : Hq2.Says hS h K) : PySem.W.keepIn K (.ref (He.ga K "ThresholdObserver")) = true := id (c.fact 78 rfl)
theorem h_at_ThresholdObserver_see_switching {h : Heap} {K : PySem.W.Frag} (c : Hq2.Says hS h K) : PySem.W.findIn K (.ref (He.ga K "ThresholdObserver")) "see_switching" = some (some (.ref (He.ma K (He.ga K "ThresholdObserver") "see_switching"))) := He.eqO_ok (c.fact 79 rfl)
theorem h_fn_ThresholdObserver_see_switching {h : Heap} {K : PySem.W.Frag} (c : Hq2.Says hS h K) : PySem.W.isFn K (.ref (He.ma K (He.ga K "ThresholdObserver") "see_switching")) = true := id (c.fact 80 rfl)
theorem h_kp_ThresholdObserver_see_switching {h : Heap} {K : PySem.W.Frag} (c : Hq2.Says hS h K) : PySem.W.keepIn K (.ref (He.ma K (He.ga K "ThresholdObserver") "see_switching")) = true := id (c.fact 81 rfl)
theorem h_at_ThresholdObserver_see_rest {h : Heap} {K : PySem.W.Frag} (c : Hq2.Says hS h K) : PySem.W.findIn K (.ref (He.ga K "ThresholdObserver")) "see_rest" = some (some (.ref (He.ma K (He.ga K "ThresholdObserver") "see_rest"))) := He.eqO_ok (c.fact 82 rfl)
theorem h_fn_ThresholdObserver_see_rest {h : Heap} {K : PySem.W.Frag} (c : Hq2.Says hS h K) : PySem.W.isFn K (.ref (He.ma K (He.ga K "ThresholdObserver") "see_rest")) = true := id (c.fact 83 rfl)
theorem h_kp_ThresholdObserver_see_rest {h : Heap} {K : PySem.W.Frag} (c : Hq2.Says hS h K) : PySem.W.keepIn K (.ref (He.ma K (He.ga K "ThresholdObserver") "see_rest")) = true := id (c.fact 84 rfl)
theorem h_at_ThresholdObserver_ranges_after_rest {h : Heap} {K : PySem.W.Frag} (c : Hq2.Says hS h K) : PySem.W.findIn K (.ref (He.ga K "ThresholdObserver")) "_ranges_after_rest" = some (some (.ref (He.ma K (He.ga K "ThresholdObserver") "_ranges_after_rest"))) := He.eqO_ok (c.fact 85 rfl)
theorem h_fn_ThresholdObserver_ranges_after_rest {h : Heap} {K : PySem.W.Frag} (c : Hq2.Says hS h K) : PySem.W.isFn K (.ref (He.ma K (He.ga K "ThresholdObserver") "_ranges_after_rest")) = true := id (c.fact 86 rfl)
theorem h_kp_ThresholdObserver_ranges_after_rest {h : Heap} {K : PySem.W.Frag} (c : Hq2.Says hS h K) : PySem.W.keepIn K (.ref (He.ma K (He.ga K "ThresholdObserver") "_ranges_after_rest")) = true := id (c.fact 87 rfl)
theorem h_at_ThresholdObserver_accept {h : Heap} {K : PySem.W.Frag} (c : Hq2.Says hS h K) : PySem.W.findIn K (.ref (He.ga K "ThresholdObserver")) "_accept" = some (some (.ref (He.ma K (He.ga K "ThresholdObserver") "_accept"))) := He.eqO_ok (c.fact 88 rfl)
theorem h_fn_ThresholdObserver_accept {h : Heap} {K : PySem.W.Frag} (c : Hq2.Says hS h K) : PySem.W.isFn K (.ref (He.ma K (He.ga K "ThresholdObserver") "_accept")) = true := id (c.fact 89 rfl)
theorem h_kp_ThresholdObserver_accept {h : Heap} {K : PySem.W.Frag} (c : Hq2.Says hS h K) : PySem.W.keepIn K (.ref (He.ma K (He.ga K "ThresholdObserver") "_accept")) = true := id (c.fact 90 rfl)
theorem h_at_check_ranges {h : Heap} {K : PySem.W.Frag} (c : Hq2.Says hS h K) : PySem.W.nsIn K mainGlobals "check_ranges" = some (some (.ref (He.ga K "check_ranges"))) := He.eqO_ok (c.fact 91 rfl)
theorem h_kp_check_ranges {h : Heap} {K : PySem.W.Frag} (c : Hq2.Says hS h K) : PySem.W.keepIn K (.ref (He.ga K "check_ranges")) = true := id (c.fact 92 rfl)
theorem h_at__law_mix {h : Heap} {K : PySem.W.Frag} (c : Hq2.Says hS h K) : PySem.W.nsIn K mainGlobals "_law_mix" = some (some (.ref (He.ga K "_law_mix"))) := He.eqO_ok (c.fact 93 rfl)
theorem h_kp__law_mix {h : Heap} {K : PySem.W.Frag} (c : Hq2.Says hS h K) : PySem.W.keepIn K (.ref (He.ga K "_law_mix")) = true := id (c.fact 94 rfl)
theorem h_at__law_next {h : Heap} {K : PySem.W.Frag} (c : Hq2.Says hS h K) : PySem.W.nsIn K mainGlobals "_law_next" = some (some (.ref (He.ga K "_law_next"))) := He.eqO_ok (c.fact 95 rfl)
theorem h_kp__law_next {h : Heap} {K : PySem.W.Frag} (c : Hq2.Says hS h K) : PySem.W.keepIn K (.ref (He.ga K "_law_next")) = true := id (c.fact 96 rfl)
theorem h_at__law_alike {h : Heap} {K : PySem.W.Frag} (c : Hq2.Says hS h K) : PySem.W.nsIn K mainGlobals "_law_alike" = some (some (.ref (He.ga K "_law_alike"))) := He.eqO_ok (c.fact 97 rfl)
theorem h_kp__law_alike {h : Heap} {K : PySem.W.Frag} (c : Hq2.Says hS h K) : PySem.W.keepIn K (.ref (He.ga K "_law_alike")) = true := id (c.fact 98 rfl)
theorem h_at__law_error {h : Heap} {K : PySem.W.Frag} (c : Hq2.Says hS h K) : PySem.W.nsIn K mainGlobals "_law_error" = some (some (.ref (He.ga K "_law_error"))) := He.eqO_ok (c.fact 99 rfl)
theorem h_kp__law_error {h : Heap} {K : PySem.W.Frag} (c : Hq2.Says hS h K) : PySem.W.keepIn K (.ref (He.ga K "_law_error")) = true := id (c.fact 100 rfl)
theorem h_at__law_changes {h : Heap} {K : PySem.W.Frag} (c : Hq2.Says hS h K) : PySem.W.nsIn K mainGlobals "_law_changes" = some (some (.ref (He.ga K "_law_changes"))) := He.eqO_ok (c.fact 101 rfl)
theorem h_kp__law_changes {h : Heap} {K : PySem.W.Frag} (c : Hq2.Says hS h K) : PySem.W.keepIn K (.ref (He.ga K "_law_changes")) = true := id (c.fact 102 rfl)
theorem h_at__law_weather {h : Heap} {K : PySem.W.Frag} (c : Hq2.Says hS h K) : PySem.W.nsIn K mainGlobals "_law_weather" = some (some (.ref (He.ga K "_law_weather"))) := He.eqO_ok (c.fact 103 rfl)
theorem h_kp__law_weather {h : Heap} {K : PySem.W.Frag} (c : Hq2.Says hS h K) : PySem.W.keepIn K (.ref (He.ga K "_law_weather")) = true := id (c.fact 104 rfl)
theorem h_at__law_setting {h : Heap} {K : PySem.W.Frag} (c : Hq2.Says hS h K) : PySem.W.nsIn K mainGlobals "_law_setting" = some (some (.ref (He.ga K "_law_setting"))) := He.eqO_ok (c.fact 105 rfl)
theorem h_kp__law_setting {h : Heap} {K : PySem.W.Frag} (c : Hq2.Says hS h K) : PySem.W.keepIn K (.ref (He.ga K "_law_setting")) = true := id (c.fact 106 rfl)
theorem h_at__law_told {h : Heap} {K : PySem.W.Frag} (c : Hq2.Says hS h K) : PySem.W.nsIn K mainGlobals "_law_told" = some (some (.ref (He.ga K "_law_told"))) := He.eqO_ok (c.fact 107 rfl)
theorem h_kp__law_told {h : Heap} {K : PySem.W.Frag} (c : Hq2.Says hS h K) : PySem.W.keepIn K (.ref (He.ga K "_law_told")) = true := id (c.fact 108 rfl)
theorem h_at__law_agrees {h : Heap} {K : PySem.W.Frag} (c : Hq2.Says hS h K) : PySem.W.nsIn K mainGlobals "_law_agrees" = some (some (.ref (He.ga K "_law_agrees"))) := He.eqO_ok (c.fact 109 rfl)
theorem h_kp__law_agrees {h : Heap} {K : PySem.W.Frag} (c : Hq2.Says hS h K) : PySem.W.keepIn K (.ref (He.ga K "_law_agrees")) = true := id (c.fact 110 rfl)
theorem h_at__law_ranges {h : Heap} {K : PySem.W.Frag} (c : Hq2.Says hS h K) : PySem.W.nsIn K mainGlobals "_law_ranges" = some (some (.ref (He.ga K "_law_ranges"))) := He.eqO_ok (c.fact 111 rfl)
theorem h_kp__law_ranges {h : Heap} {K : PySem.W.Frag} (c : Hq2.Says hS h K) : PySem.W.keepIn K (.ref (He.ga K "_law_ranges")) = true := id (c.fact 112 rfl)
theorem h_at__law_ends_right {h : Heap} {K : PySem.W.Frag} (c : Hq2.Says hS h K) : PySem.W.nsIn K mainGlobals "_law_ends_right" = some (some (.ref (He.ga K "_law_ends_right"))) := He.eqO_ok (c.fact 113 rfl)
theorem h_kp__law_ends_right {h : Heap} {K : PySem.W.Frag} (c : Hq2.Says hS h K) : PySem.W.keepIn K (.ref (He.ga K "_law_ends_right")) = true := id (c.fact 114 rfl)
theorem h_at_law {h : Heap} {K : PySem.W.Frag} (c : Hq2.Says hS h K) : PySem.W.nsIn K mainGlobals "law" = some (some (.ref (He.ga K "law"))) := He.eqO_ok (c.fact 115 rfl)
theorem h_kp_law {h : Heap} {K : PySem.W.Frag} (c : Hq2.Says hS h K) : PySem.W.keepIn K (.ref (He.ga K "law")) = true := id (c.fact 116 rfl)
theorem h_at_Weather_changes {h : Heap} {K : PySem.W.Frag} (c : Hq2.Says hS h K) : PySem.W.findIn K (.ref (He.ga K "Weather")) "changes" = some (some (.ref (He.ma K (He.ga K "Weather") "changes"))) := He.eqO_ok (c.fact 117 rfl)
theorem h_gt_Weather_changes {h : Heap} {K : PySem.W.Frag} (c : Hq2.Says hS h K) : PySem.W.specialIn K (.ref (He.ma K (He.ga K "Weather") "changes")) "__get__" = some (some (.builtin "property.__get__")) := He.eqO_ok (c.fact 118 rfl)
theorem h_tk_Weather_changes {h : Heap} {K : PySem.W.Frag} (c : Hq2.Says hS h K) : PySem.W.takesIn K (.ref (He.ma K (He.ga K "Weather") "changes")) = some true := of_decide_eq_true (c.fact 119 rfl)
theorem h_rc_Weather_changes {h : Heap} {K : PySem.W.Frag} (c : Hq2.Says hS h K) : PySem.W.recIn K (He.ma K (He.ga K "Weather") "changes") "property" = some (.ref (Hq.gtA K (He.ma K (He.ga K "Weather") "changes")) :: Hq.gtR K (He.ma K (He.ga K "Weather") "changes")) := Hq.gtB_ok (c.fact 120 rfl)
theorem h_kp_Weather_changes {h : Heap} {K : PySem.W.Frag} (c : Hq2.Says hS h K) : PySem.W.keepIn K (.ref (Hq.gtA K (He.ma K (He.ga K "Weather") "changes"))) = true := id (c.fact 121 rfl)
theorem h_at_ThresholdObserver_low_range {h : Heap} {K : PySem.W.Frag} (c : Hq2.Says hS h K) : PySem.W.findIn K (.ref (He.ga K "ThresholdObserver")) "low_range" = some (some (.ref (He.ma K (He.ga K "ThresholdObserver") "low_range"))) := He.eqO_ok (c.fact 122 rfl)
theorem h_gt_ThresholdObserver_low_range {h : Heap} {K : PySem.W.Frag} (c : Hq2.Says hS h K) : PySem.W.specialIn K (.ref (He.ma K (He.ga K "ThresholdObserver") "low_range")) "__get__" = some (some (.builtin "property.__get__")) := He.eqO_ok (c.fact 123 rfl)
theorem h_tk_ThresholdObserver_low_range {h : Heap} {K : PySem.W.Frag} (c : Hq2.Says hS h K) : PySem.W.takesIn K (.ref (He.ma K (He.ga K "ThresholdObserver") "low_range")) = some true := of_decide_eq_true (c.fact 124 rfl)
theorem h_rc_ThresholdObserver_low_range {h : Heap} {K : PySem.W.Frag} (c : Hq2.Says hS h K) : PySem.W.recIn K (He.ma K (He.ga K "ThresholdObserver") "low_range") "property" = some (.ref (Hq.gtA K (He.ma K (He.ga K "ThresholdObserver") "low_range")) :: Hq.gtR K (He.ma K (He.ga K "ThresholdObserver") "low_range")) := Hq.gtB_ok (c.fact 125 rfl)
theorem h_kp_ThresholdObserver_low_range {h : Heap} {K : PySem.W.Frag} (c : Hq2.Says hS h K) : PySem.W.keepIn K (.ref (Hq.gtA K (He.ma K (He.ga K "ThresholdObserver") "low_range"))) = true := id (c.fact 126 rfl)
theorem h_at_ThresholdObserver_high_range {h : Heap} {K : PySem.W.Frag} (c : Hq2.Says hS h K) : PySem.W.findIn K (.ref (He.ga K "ThresholdObserver")) "high_range" = some (some (.ref (He.ma K (He.ga K "ThresholdObserver") "high_range"))) := He.eqO_ok (c.fact 127 rfl)
theorem h_gt_ThresholdObserver_high_range {h : Heap} {K : PySem.W.Frag} (c : Hq2.Says hS h K) : PySem.W.specialIn K (.ref (He.ma K (He.ga K "ThresholdObserver") "high_range")) "__get__" = some (some (.builtin "property.__get__")) := He.eqO_ok (c.fact 128 rfl)
theorem h_tk_ThresholdObserver_high_range {h : Heap} {K : PySem.W.Frag} (c : Hq2.Says hS h K) : PySem.W.takesIn K (.ref (He.ma K (He.ga K "ThresholdObserver") "high_range")) = some true := of_decide_eq_true (c.fact 129 rfl)
theorem h_rc_ThresholdObserver_high_range {h : Heap} {K : PySem.W.Frag} (c : Hq2.Says hS h K) : PySem.W.recIn K (He.ma K (He.ga K "ThresholdObserver") "high_range") "property" = some (.ref (Hq.gtA K (He.ma K (He.ga K "ThresholdObserver") "high_range")) :: Hq.gtR K (He.ma K (He.ga K "ThresholdObserver") "high_range")) := Hq.gtB_ok (c.fact 130 rfl)
theorem h_kp_ThresholdObserver_high_range {h : Heap} {K : PySem.W.Frag} (c : Hq2.Says hS h K) : PySem.W.keepIn K (.ref (Hq.gtA K (He.ma K (He.ga K "ThresholdObserver") "high_range"))) = true := id (c.fact 131 rfl)
theorem h_at_ThresholdObserver_seen_ticks {h : Heap} {K : PySem.W.Frag} (c : Hq2.Says hS h K) : PySem.W.findIn K (.ref (He.ga K "ThresholdObserver")) "seen_ticks" = some (some (.ref (He.ma K (He.ga K "ThresholdObserver") "seen_ticks"))) := He.eqO_ok (c.fact 132 rfl)
theorem h_gt_ThresholdObserver_seen_ticks {h : Heap} {K : PySem.W.Frag} (c : Hq2.Says hS h K) : PySem.W.specialIn K (.ref (He.ma K (He.ga K "ThresholdObserver") "seen_ticks")) "__get__" = some (some (.builtin "property.__get__")) := He.eqO_ok (c.fact 133 rfl)
theorem h_tk_ThresholdObserver_seen_ticks {h : Heap} {K : PySem.W.Frag} (c : Hq2.Says hS h K) : PySem.W.takesIn K (.ref (He.ma K (He.ga K "ThresholdObserver") "seen_ticks")) = some true := of_decide_eq_true (c.fact 134 rfl)
theorem h_rc_ThresholdObserver_seen_ticks {h : Heap} {K : PySem.W.Frag} (c : Hq2.Says hS h K) : PySem.W.recIn K (He.ma K (He.ga K "ThresholdObserver") "seen_ticks") "property" = some (.ref (Hq.gtA K (He.ma K (He.ga K "ThresholdObserver") "seen_ticks")) :: Hq.gtR K (He.ma K (He.ga K "ThresholdObserver") "seen_ticks")) := Hq.gtB_ok (c.fact 135 rfl)
theorem h_kp_ThresholdObserver_seen_ticks {h : Heap} {K : PySem.W.Frag} (c : Hq2.Says hS h K) : PySem.W.keepIn K (.ref (Hq.gtA K (He.ma K (He.ga K "ThresholdObserver") "seen_ticks"))) = true := id (c.fact 136 rfl)
theorem h_at_ThresholdObserver_records {h : Heap} {K : PySem.W.Frag} (c : Hq2.Says hS h K) : PySem.W.findIn K (.ref (He.ga K "ThresholdObserver")) "records" = some (some (.ref (He.ma K (He.ga K "ThresholdObserver") "records"))) := He.eqO_ok (c.fact 137 rfl)
theorem h_gt_ThresholdObserver_records {h : Heap} {K : PySem.W.Frag} (c : Hq2.Says hS h K) : PySem.W.specialIn K (.ref (He.ma K (He.ga K "ThresholdObserver") "records")) "__get__" = some (some (.builtin "property.__get__")) := He.eqO_ok (c.fact 138 rfl)
theorem h_tk_ThresholdObserver_records {h : Heap} {K : PySem.W.Frag} (c : Hq2.Says hS h K) : PySem.W.takesIn K (.ref (He.ma K (He.ga K "ThresholdObserver") "records")) = some true := of_decide_eq_true (c.fact 139 rfl)
theorem h_rc_ThresholdObserver_records {h : Heap} {K : PySem.W.Frag} (c : Hq2.Says hS h K) : PySem.W.recIn K (He.ma K (He.ga K "ThresholdObserver") "records") "property" = some (.ref (Hq.gtA K (He.ma K (He.ga K "ThresholdObserver") "records")) :: Hq.gtR K (He.ma K (He.ga K "ThresholdObserver") "records")) := Hq.gtB_ok (c.fact 140 rfl)
theorem h_kp_ThresholdObserver_records {h : Heap} {K : PySem.W.Frag} (c : Hq2.Says hS h K) : PySem.W.keepIn K (.ref (Hq.gtA K (He.ma K (He.ga K "ThresholdObserver") "records"))) = true := id (c.fact 141 rfl)
theorem h_gl_MOST_TICKS {h : Heap} {K : PySem.W.Frag} (c : Hq2.Says hS h K) : ∃ t, PySem.W.nsIn K mainGlobals "MOST_TICKS" = some (some (.int 1000000000000000000 t)) := Hq.inB_ok (c.fact 142 rfl)
theorem h_gl_MOST_GAIN {h : Heap} {K : PySem.W.Frag} (c : Hq2.Says hS h K) : ∃ t, PySem.W.nsIn K mainGlobals "MOST_GAIN" = some (some (.int 200 t)) := Hq.inB_ok (c.fact 143 rfl)
theorem h_gl_MOST_DEGREES {h : Heap} {K : PySem.W.Frag} (c : Hq2.Says hS h K) : ∃ t, PySem.W.nsIn K mainGlobals "MOST_DEGREES" = some (some (.int 1000000000000 t)) := Hq.inB_ok (c.fact 144 rfl)
theorem h_z_abs {h : Heap} {K : PySem.W.Frag} (c : Hq2.Says hS h K) : PySem.W.nsIn K mainGlobals "abs" = some none := He.eqO_ok (c.fact 145 rfl)
theorem h_z_bool {h : Heap} {K : PySem.W.Frag} (c : Hq2.Says hS h K) : PySem.W.nsIn K mainGlobals "bool" = some none := He.eqO_ok (c.fact 146 rfl)
theorem h_z_dict {h : Heap} {K : PySem.W.Frag} (c : Hq2.Says hS h K) : PySem.W.nsIn K mainGlobals "dict" = some none := He.eqO_ok (c.fact 147 rfl)
theorem h_z_divmod {h : Heap} {K : PySem.W.Frag} (c : Hq2.Says hS h K) : PySem.W.nsIn K mainGlobals "divmod" = some none := He.eqO_ok (c.fact 148 rfl)
theorem h_z_enumerate {h : Heap} {K : PySem.W.Frag} (c : Hq2.Says hS h K) : PySem.W.nsIn K mainGlobals "enumerate" = some none := He.eqO_ok (c.fact 149 rfl)
theorem h_z_int {h : Heap} {K : PySem.W.Frag} (c : Hq2.Says hS h K) : PySem.W.nsIn K mainGlobals "int" = some none := He.eqO_ok (c.fact 150 rfl)
theorem h_z_isinstance {h : Heap} {K : PySem.W.Frag} (c : Hq2.Says hS h K) : PySem.W.nsIn K mainGlobals "isinstance" = some none := He.eqO_ok (c.fact 151 rfl)
theorem h_z_len {h : Heap} {K : PySem.W.Frag} (c : Hq2.Says hS h K) : PySem.W.nsIn K mainGlobals "len" = some none := He.eqO_ok (c.fact 152 rfl)
theorem h_z_list {h : Heap} {K : PySem.W.Frag} (c : Hq2.Says hS h K) : PySem.W.nsIn K mainGlobals "list" = some none := He.eqO_ok (c.fact 153 rfl)
theorem h_z_max {h : Heap} {K : PySem.W.Frag} (c : Hq2.Says hS h K) : PySem.W.nsIn K mainGlobals "max" = some none := He.eqO_ok (c.fact 154 rfl)
theorem h_z_min {h : Heap} {K : PySem.W.Frag} (c : Hq2.Says hS h K) : PySem.W.nsIn K mainGlobals "min" = some none := He.eqO_ok (c.fact 155 rfl)
theorem h_z_range {h : Heap} {K : PySem.W.Frag} (c : Hq2.Says hS h K) : PySem.W.nsIn K mainGlobals "range" = some none := He.eqO_ok (c.fact 156 rfl)
theorem h_z_sorted {h : Heap} {K : PySem.W.Frag} (c : Hq2.Says hS h K) : PySem.W.nsIn K mainGlobals "sorted" = some none := He.eqO_ok (c.fact 157 rfl)
theorem h_z_str {h : Heap} {K : PySem.W.Frag} (c : Hq2.Says hS h K) : PySem.W.nsIn K mainGlobals "str" = some none := He.eqO_ok (c.fact 158 rfl)
theorem h_z_sum {h : Heap} {K : PySem.W.Frag} (c : Hq2.Says hS h K) : PySem.W.nsIn K mainGlobals "sum" = some none := He.eqO_ok (c.fact 159 rfl)
theorem h_z_tuple {h : Heap} {K : PySem.W.Frag} (c : Hq2.Says hS h K) : PySem.W.nsIn K mainGlobals "tuple" = some none := He.eqO_ok (c.fact 160 rfl)
theorem h_cv_Weather_MAX_CHANGE {h : Heap} {K : PySem.W.Frag} (c : Hq2.Says hS h K) : ∃ t, PySem.W.findIn K (.ref (He.ga K "Weather")) "MAX_CHANGE" = some (some (.int 100 t)) ∧ PySem.W.specialIn K (.int 100 t) "__get__" = some none := Hq.cvB_ok (c.fact 161 rfl)
theorem h_cv_Weather_MAX_TICKS {h : Heap} {K : PySem.W.Frag} (c : Hq2.Says hS h K) : ∃ t, PySem.W.findIn K (.ref (He.ga K "Weather")) "MAX_TICKS" = some (some (.int 24 t)) ∧ PySem.W.specialIn K (.int 24 t) "__get__" = some none := Hq.cvB_ok (c.fact 162 rfl)
theorem h_er {h : Heap} {K : PySem.W.Frag} (c : Hq2.Says hS h K) : (erL K hR.prog.main.file).all id = true := id (c.fact 163 rfl)
theorem h_ex {h : Heap} {K : PySem.W.Frag} (c : Hq2.Says hS h K) : (exL K).all id = true := id (c.fact 164 rfl)
theorem h_def_first_invalid {h : Heap} {K : PySem.W.Frag} (c : Hq2.Says hS h K) : Hq.mo K (He.ga K "first_invalid") = Hq.mv "first_invalid" "first_invalid" s_first_invalid := c.fn 0 rfl
theorem h_co_first_invalid {h : Heap} {K : PySem.W.Frag} (c : Hq2.Says hS h K) : Hq.coB K (He.ga K "first_invalid") "first_invalid" = true := c.fact 165 rfl
theorem h_def_Drift_init {h : Heap} {K : PySem.W.Frag} (c : Hq2.Says hS h K) : Hq.mo K (He.ma K (He.ga K "Drift") "__init__") = Hq.mv "__init__" "Drift.__init__" s_Drift_init := c.fn 1 rfl
theorem h_co_Drift_init {h : Heap} {K : PySem.W.Frag} (c : Hq2.Says hS h K) : Hq.coB K (He.ma K (He.ga K "Drift") "__init__") "Drift.__init__" = true := c.fact 166 rfl
theorem h_def_Drift_sum_to {h : Heap} {K : PySem.W.Frag} (c : Hq2.Says hS h K) : Hq.mo K (He.ma K (He.ga K "Drift") "sum_to") = Hq.mv "sum_to" "Drift.sum_to" s_Drift_sum_to := c.fn 2 rfl
theorem h_co_Drift_sum_to {h : Heap} {K : PySem.W.Frag} (c : Hq2.Says hS h K) : Hq.coB K (He.ma K (He.ga K "Drift") "sum_to") "Drift.sum_to" = true := c.fact 167 rfl
theorem h_def_both_drifts {h : Heap} {K : PySem.W.Frag} (c : Hq2.Says hS h K) : Hq.mo K (He.ga K "both_drifts") = Hq.mv "both_drifts" "both_drifts" s_both_drifts := c.fn 3 rfl
theorem h_co_both_drifts {h : Heap} {K : PySem.W.Frag} (c : Hq2.Says hS h K) : Hq.coB K (He.ga K "both_drifts") "both_drifts" = true := c.fact 168 rfl
theorem h_def_Stretch_init {h : Heap} {K : PySem.W.Frag} (c : Hq2.Says hS h K) : Hq.mo K (He.ma K (He.ga K "Stretch") "__init__") = Hq.mv "__init__" "Stretch.__init__" s_Stretch_init := c.fn 4 rfl
theorem h_co_Stretch_init {h : Heap} {K : PySem.W.Frag} (c : Hq2.Says hS h K) : Hq.coB K (He.ma K (He.ga K "Stretch") "__init__") "Stretch.__init__" = true := c.fact 169 rfl
theorem h_def_Stretch_degrees_at {h : Heap} {K : PySem.W.Frag} (c : Hq2.Says hS h K) : Hq.mo K (He.ma K (He.ga K "Stretch") "degrees_at") = Hq.mv "degrees_at" "Stretch.degrees_at" s_Stretch_degrees_at := c.fn 5 rfl
theorem h_co_Stretch_degrees_at {h : Heap} {K : PySem.W.Frag} (c : Hq2.Says hS h K) : Hq.coB K (He.ma K (He.ga K "Stretch") "degrees_at") "Stretch.degrees_at" = true := c.fact 170 rfl
theorem h_def_Stretch_continued {h : Heap} {K : PySem.W.Frag} (c : Hq2.Says hS h K) : Hq.mo K (He.ma K (He.ga K "Stretch") "continued") = Hq.mv "continued" "Stretch.continued" s_Stretch_continued := c.fn 6 rfl
theorem h_co_Stretch_continued {h : Heap} {K : PySem.W.Frag} (c : Hq2.Says hS h K) : Hq.coB K (He.ma K (He.ga K "Stretch") "continued") "Stretch.continued" = true := c.fact 171 rfl
theorem h_def_Stretch_switched {h : Heap} {K : PySem.W.Frag} (c : Hq2.Says hS h K) : Hq.mo K (He.ma K (He.ga K "Stretch") "switched") = Hq.mv "switched" "Stretch.switched" s_Stretch_switched := c.fn 7 rfl
theorem h_co_Stretch_switched {h : Heap} {K : PySem.W.Frag} (c : Hq2.Says hS h K) : Hq.coB K (He.ma K (He.ga K "Stretch") "switched") "Stretch.switched" = true := c.fact 172 rfl
theorem h_def_Stretch_extreme_before {h : Heap} {K : PySem.W.Frag} (c : Hq2.Says hS h K) : Hq.mo K (He.ma K (He.ga K "Stretch") "extreme_before") = Hq.mv "extreme_before" "Stretch.extreme_before" s_Stretch_extreme_before := c.fn 8 rfl
theorem h_co_Stretch_extreme_before {h : Heap} {K : PySem.W.Frag} (c : Hq2.Says hS h K) : Hq.coB K (He.ma K (He.ga K "Stretch") "extreme_before") "Stretch.extreme_before" = true := c.fact 173 rfl
theorem h_def_more_extreme {h : Heap} {K : PySem.W.Frag} (c : Hq2.Says hS h K) : Hq.mo K (He.ga K "more_extreme") = Hq.mv "more_extreme" "more_extreme" s_more_extreme := c.fn 9 rfl
theorem h_co_more_extreme {h : Heap} {K : PySem.W.Frag} (c : Hq2.Says hS h K) : Hq.coB K (He.ga K "more_extreme") "more_extreme" = true := c.fact 174 rfl
theorem h_def_check_number {h : Heap} {K : PySem.W.Frag} (c : Hq2.Says hS h K) : Hq.mo K (He.ga K "check_number") = Hq.mv "check_number" "check_number" s_check_number := c.fn 10 rfl
theorem h_co_check_number {h : Heap} {K : PySem.W.Frag} (c : Hq2.Says hS h K) : Hq.coB K (He.ga K "check_number") "check_number" = true := c.fact 175 rfl
theorem h_def_Weather_init {h : Heap} {K : PySem.W.Frag} (c : Hq2.Says hS h K) : Hq.mo K (He.ma K (He.ga K "Weather") "__init__") = Hq.mv "__init__" "Weather.__init__" s_Weather_init := c.fn 11 rfl
theorem h_co_Weather_init {h : Heap} {K : PySem.W.Frag} (c : Hq2.Says hS h K) : Hq.coB K (He.ma K (He.ga K "Weather") "__init__") "Weather.__init__" = true := c.fact 176 rfl
theorem h_def_check_gain {h : Heap} {K : PySem.W.Frag} (c : Hq2.Says hS h K) : Hq.mo K (He.ga K "check_gain") = Hq.mv "check_gain" "check_gain" s_check_gain := c.fn 12 rfl
theorem h_co_check_gain {h : Heap} {K : PySem.W.Frag} (c : Hq2.Says hS h K) : Hq.coB K (He.ga K "check_gain") "check_gain" = true := c.fact 177 rfl
theorem h_def_ThresholdObserver_init {h : Heap} {K : PySem.W.Frag} (c : Hq2.Says hS h K) : Hq.mo K (He.ma K (He.ga K "ThresholdObserver") "__init__") = Hq.mv "__init__" "ThresholdObserver.__init__" s_ThresholdObserver_init := c.fn 13 rfl
theorem h_co_ThresholdObserver_init {h : Heap} {K : PySem.W.Frag} (c : Hq2.Says hS h K) : Hq.coB K (He.ma K (He.ga K "ThresholdObserver") "__init__") "ThresholdObserver.__init__" = true := c.fact 178 rfl
theorem h_kw_ThresholdObserver_init {h : Heap} {K : PySem.W.Frag} (c : Hq2.Says hS h K) : Hq.kwB K (He.ma K (He.ga K "ThresholdObserver") "__init__") = true := c.fact 179 rfl
theorem h_def_ThresholdObserver_see_switching {h : Heap} {K : PySem.W.Frag} (c : Hq2.Says hS h K) : Hq.mo K (He.ma K (He.ga K "ThresholdObserver") "see_switching") = Hq.mv "see_switching" "ThresholdObserver.see_switching" s_ThresholdObserver_see_switching := c.fn 14 rfl
theorem h_co_ThresholdObserver_see_switching {h : Heap} {K : PySem.W.Frag} (c : Hq2.Says hS h K) : Hq.coB K (He.ma K (He.ga K "ThresholdObserver") "see_switching") "ThresholdObserver.see_switching" = true := c.fact 180 rfl
theorem h_def_ThresholdObserver_see_rest {h : Heap} {K : PySem.W.Frag} (c : Hq2.Says hS h K) : Hq.mo K (He.ma K (He.ga K "ThresholdObserver") "see_rest") = Hq.mv "see_rest" "ThresholdObserver.see_rest" s_ThresholdObserver_see_rest := c.fn 15 rfl
theorem h_co_ThresholdObserver_see_rest {h : Heap} {K : PySem.W.Frag} (c : Hq2.Says hS h K) : Hq.coB K (He.ma K (He.ga K "ThresholdObserver") "see_rest") "ThresholdObserver.see_rest" = true := c.fact 181 rfl
theorem h_def_ThresholdObserver_ranges_after_rest {h : Heap} {K : PySem.W.Frag} (c : Hq2.Says hS h K) : Hq.mo K (He.ma K (He.ga K "ThresholdObserver") "_ranges_after_rest") = Hq.mv "_ranges_after_rest" "ThresholdObserver._ranges_after_rest" s_ThresholdObserver_ranges_after_rest := c.fn 16 rfl
theorem h_co_ThresholdObserver_ranges_after_rest {h : Heap} {K : PySem.W.Frag} (c : Hq2.Says hS h K) : Hq.coB K (He.ma K (He.ga K "ThresholdObserver") "_ranges_after_rest") "ThresholdObserver._ranges_after_rest" = true := c.fact 182 rfl
theorem h_def_ThresholdObserver_accept {h : Heap} {K : PySem.W.Frag} (c : Hq2.Says hS h K) : Hq.mo K (He.ma K (He.ga K "ThresholdObserver") "_accept") = Hq.mv "_accept" "ThresholdObserver._accept" s_ThresholdObserver_accept := c.fn 17 rfl
theorem h_co_ThresholdObserver_accept {h : Heap} {K : PySem.W.Frag} (c : Hq2.Says hS h K) : Hq.coB K (He.ma K (He.ga K "ThresholdObserver") "_accept") "ThresholdObserver._accept" = true := c.fact 183 rfl
theorem h_def_check_ranges {h : Heap} {K : PySem.W.Frag} (c : Hq2.Says hS h K) : Hq.mo K (He.ga K "check_ranges") = Hq.mv "check_ranges" "check_ranges" s_check_ranges := c.fn 18 rfl
theorem h_co_check_ranges {h : Heap} {K : PySem.W.Frag} (c : Hq2.Says hS h K) : Hq.coB K (He.ga K "check_ranges") "check_ranges" = true := c.fact 184 rfl
theorem h_def__law_mix {h : Heap} {K : PySem.W.Frag} (c : Hq2.Says hS h K) : Hq.mo K (He.ga K "_law_mix") = Hq.mv "_law_mix" "_law_mix" s__law_mix := c.fn 19 rfl
theorem h_co__law_mix {h : Heap} {K : PySem.W.Frag} (c : Hq2.Says hS h K) : Hq.coB K (He.ga K "_law_mix") "_law_mix" = true := c.fact 185 rfl
theorem h_def__law_next {h : Heap} {K : PySem.W.Frag} (c : Hq2.Says hS h K) : Hq.mo K (He.ga K "_law_next") = Hq.mv "_law_next" "_law_next" s__law_next := c.fn 20 rfl
theorem h_co__law_next {h : Heap} {K : PySem.W.Frag} (c : Hq2.Says hS h K) : Hq.coB K (He.ga K "_law_next") "_law_next" = true := c.fact 186 rfl
theorem h_def__law_alike {h : Heap} {K : PySem.W.Frag} (c : Hq2.Says hS h K) : Hq.mo K (He.ga K "_law_alike") = Hq.mv "_law_alike" "_law_alike" s__law_alike := c.fn 21 rfl
theorem h_co__law_alike {h : Heap} {K : PySem.W.Frag} (c : Hq2.Says hS h K) : Hq.coB K (He.ga K "_law_alike") "_law_alike" = true := c.fact 187 rfl
theorem h_def__law_error {h : Heap} {K : PySem.W.Frag} (c : Hq2.Says hS h K) : Hq.mo K (He.ga K "_law_error") = Hq.mv "_law_error" "_law_error" s__law_error := c.fn 22 rfl
theorem h_co__law_error {h : Heap} {K : PySem.W.Frag} (c : Hq2.Says hS h K) : Hq.coB K (He.ga K "_law_error") "_law_error" = true := c.fact 188 rfl
theorem h_def__law_changes {h : Heap} {K : PySem.W.Frag} (c : Hq2.Says hS h K) : Hq.mo K (He.ga K "_law_changes") = Hq.mv "_law_changes" "_law_changes" s__law_changes := c.fn 23 rfl
theorem h_co__law_changes {h : Heap} {K : PySem.W.Frag} (c : Hq2.Says hS h K) : Hq.coB K (He.ga K "_law_changes") "_law_changes" = true := c.fact 189 rfl
theorem h_def__law_weather {h : Heap} {K : PySem.W.Frag} (c : Hq2.Says hS h K) : Hq.mo K (He.ga K "_law_weather") = Hq.mv "_law_weather" "_law_weather" s__law_weather := c.fn 24 rfl
theorem h_co__law_weather {h : Heap} {K : PySem.W.Frag} (c : Hq2.Says hS h K) : Hq.coB K (He.ga K "_law_weather") "_law_weather" = true := c.fact 190 rfl
theorem h_def__law_setting {h : Heap} {K : PySem.W.Frag} (c : Hq2.Says hS h K) : Hq.mo K (He.ga K "_law_setting") = Hq.mv "_law_setting" "_law_setting" s__law_setting := c.fn 25 rfl
theorem h_co__law_setting {h : Heap} {K : PySem.W.Frag} (c : Hq2.Says hS h K) : Hq.coB K (He.ga K "_law_setting") "_law_setting" = true := c.fact 191 rfl
theorem h_def__law_told {h : Heap} {K : PySem.W.Frag} (c : Hq2.Says hS h K) : Hq.mo K (He.ga K "_law_told") = Hq.mv "_law_told" "_law_told" s__law_told := c.fn 26 rfl
theorem h_co__law_told {h : Heap} {K : PySem.W.Frag} (c : Hq2.Says hS h K) : Hq.coB K (He.ga K "_law_told") "_law_told" = true := c.fact 192 rfl
theorem h_def__law_agrees {h : Heap} {K : PySem.W.Frag} (c : Hq2.Says hS h K) : Hq.mo K (He.ga K "_law_agrees") = Hq.mv "_law_agrees" "_law_agrees" s__law_agrees := c.fn 27 rfl
theorem h_co__law_agrees {h : Heap} {K : PySem.W.Frag} (c : Hq2.Says hS h K) : Hq.coB K (He.ga K "_law_agrees") "_law_agrees" = true := c.fact 193 rfl
theorem h_def__law_ranges {h : Heap} {K : PySem.W.Frag} (c : Hq2.Says hS h K) : Hq.mo K (He.ga K "_law_ranges") = Hq.mv "_law_ranges" "_law_ranges" s__law_ranges := c.fn 28 rfl
theorem h_co__law_ranges {h : Heap} {K : PySem.W.Frag} (c : Hq2.Says hS h K) : Hq.coB K (He.ga K "_law_ranges") "_law_ranges" = true := c.fact 194 rfl
theorem h_def__law_ends_right {h : Heap} {K : PySem.W.Frag} (c : Hq2.Says hS h K) : Hq.mo K (He.ga K "_law_ends_right") = Hq.mv "_law_ends_right" "_law_ends_right" s__law_ends_right := c.fn 29 rfl
theorem h_co__law_ends_right {h : Heap} {K : PySem.W.Frag} (c : Hq2.Says hS h K) : Hq.coB K (He.ga K "_law_ends_right") "_law_ends_right" = true := c.fact 195 rfl
theorem h_def_law {h : Heap} {K : PySem.W.Frag} (c : Hq2.Says hS h K) : Hq.mo K (He.ga K "law") = Hq.mv "law" "law" s_law := c.fn 30 rfl
theorem h_co_law {h : Heap} {K : PySem.W.Frag} (c : Hq2.Says hS h K) : Hq.coB K (He.ga K "law") "law" = true := c.fact 196 rfl
theorem h_def_Weather_changes {h : Heap} {K : PySem.W.Frag} (c : Hq2.Says hS h K) : Hq.mo K (Hq.gtA K (He.ma K (He.ga K "Weather") "changes")) = Hq.mv "changes" "Weather.changes" s_Weather_changes := c.fn 31 rfl
theorem h_co_Weather_changes {h : Heap} {K : PySem.W.Frag} (c : Hq2.Says hS h K) : Hq.coB K (Hq.gtA K (He.ma K (He.ga K "Weather") "changes")) "Weather.changes" = true := c.fact 197 rfl
theorem h_def_ThresholdObserver_low_range {h : Heap} {K : PySem.W.Frag} (c : Hq2.Says hS h K) : Hq.mo K (Hq.gtA K (He.ma K (He.ga K "ThresholdObserver") "low_range")) = Hq.mv "low_range" "ThresholdObserver.low_range" s_ThresholdObserver_low_range := c.fn 32 rfl
theorem h_co_ThresholdObserver_low_range {h : Heap} {K : PySem.W.Frag} (c : Hq2.Says hS h K) : Hq.coB K (Hq.gtA K (He.ma K (He.ga K "ThresholdObserver") "low_range")) "ThresholdObserver.low_range" = true := c.fact 198 rfl
theorem h_def_ThresholdObserver_high_range {h : Heap} {K : PySem.W.Frag} (c : Hq2.Says hS h K) : Hq.mo K (Hq.gtA K (He.ma K (He.ga K "ThresholdObserver") "high_range")) = Hq.mv "high_range" "ThresholdObserver.high_range" s_ThresholdObserver_high_range := c.fn 33 rfl
theorem h_co_ThresholdObserver_high_range {h : Heap} {K : PySem.W.Frag} (c : Hq2.Says hS h K) : Hq.coB K (Hq.gtA K (He.ma K (He.ga K "ThresholdObserver") "high_range")) "ThresholdObserver.high_range" = true := c.fact 199 rfl
theorem h_def_ThresholdObserver_seen_ticks {h : Heap} {K : PySem.W.Frag} (c : Hq2.Says hS h K) : Hq.mo K (Hq.gtA K (He.ma K (He.ga K "ThresholdObserver") "seen_ticks")) = Hq.mv "seen_ticks" "ThresholdObserver.seen_ticks" s_ThresholdObserver_seen_ticks := c.fn 34 rfl
theorem h_co_ThresholdObserver_seen_ticks {h : Heap} {K : PySem.W.Frag} (c : Hq2.Says hS h K) : Hq.coB K (Hq.gtA K (He.ma K (He.ga K "ThresholdObserver") "seen_ticks")) "ThresholdObserver.seen_ticks" = true := c.fact 200 rfl
theorem h_def_ThresholdObserver_records {h : Heap} {K : PySem.W.Frag} (c : Hq2.Says hS h K) : Hq.mo K (Hq.gtA K (He.ma K (He.ga K "ThresholdObserver") "records")) = Hq.mv "records" "ThresholdObserver.records" s_ThresholdObserver_records := c.fn 35 rfl
theorem h_co_ThresholdObserver_records {h : Heap} {K : PySem.W.Frag} (c : Hq2.Says hS h K) : Hq.coB K (Hq.gtA K (He.ma K (He.ga K "ThresholdObserver") "records")) "ThresholdObserver.records" = true := c.fact 201 rfl
set_option maxHeartbeats 0 in
theorem hfacts {w : World} {K : PySem.W.Frag} {h : Heap} {mg : Str → Option Value} {fa : Addr} (X : K.In h) (G : h.Ns mainGlobals mg) (hfa : mg ("law" : Str) = some (.ref fa)) (c : Hq2.Says hS h K) : LamX.LawAtS PySem.Challenge.rw_warmswitch_k10_whole_hidden_thresholds w K L2.CX0 13 63 "_law_script" mg fa h := by
  have ns_Drift := h_ns_Drift c
  have pg_Drift := h_pg_Drift c
  have hd_Drift := h_hd_Drift c
  have po_Drift := h_po_Drift c
  have sa_Drift := h_sa_Drift c
  have na_Drift_round_ticks := h_na_Drift_round_ticks c
  have na_Drift_round_sum := h_na_Drift_round_sum c
  have na_Drift__sums := h_na_Drift__sums c
  have ns_Stretch := h_ns_Stretch c
  have pg_Stretch := h_pg_Stretch c
  have hd_Stretch := h_hd_Stretch c
  have po_Stretch := h_po_Stretch c
  have sa_Stretch := h_sa_Stretch c
  have na_Stretch_on := h_na_Stretch_on c
  have na_Stretch_begin := h_na_Stretch_begin c
  have na_Stretch__drifts := h_na_Stretch__drifts c
  have na_Stretch__drift := h_na_Stretch__drift c
  have na_Stretch__base := h_na_Stretch__base c
  have ns_Weather := h_ns_Weather c
  have pg_Weather := h_pg_Weather c
  have hd_Weather := h_hd_Weather c
  have po_Weather := h_po_Weather c
  have sa_Weather := h_sa_Weather c
  have na_Weather__changes := h_na_Weather__changes c
  have ns_ThresholdObserver := h_ns_ThresholdObserver c
  have pg_ThresholdObserver := h_pg_ThresholdObserver c
  have hd_ThresholdObserver := h_hd_ThresholdObserver c
  have po_ThresholdObserver := h_po_ThresholdObserver c
  have sa_ThresholdObserver := h_sa_ThresholdObserver c
  have na_ThresholdObserver__unseen := h_na_ThresholdObserver__unseen c
  have na_ThresholdObserver__lows := h_na_ThresholdObserver__lows c
  have na_ThresholdObserver__highs := h_na_ThresholdObserver__highs c
  have na_ThresholdObserver__accepted := h_na_ThresholdObserver__accepted c
  have at_first_invalid := h_at_first_invalid c
  have kp_first_invalid := h_kp_first_invalid c
  have at_Drift_init := h_at_Drift_init c
  have fn_Drift_init := h_fn_Drift_init c
  have kp_Drift_init := h_kp_Drift_init c
  have mk_Drift := h_mk_Drift c
  have kc_Drift := h_kc_Drift c
  have at_Drift_sum_to := h_at_Drift_sum_to c
  have fn_Drift_sum_to := h_fn_Drift_sum_to c
  have kp_Drift_sum_to := h_kp_Drift_sum_to c
  have at_both_drifts := h_at_both_drifts c
  have kp_both_drifts := h_kp_both_drifts c
  have at_Stretch_init := h_at_Stretch_init c
  have fn_Stretch_init := h_fn_Stretch_init c
  have kp_Stretch_init := h_kp_Stretch_init c
  have mk_Stretch := h_mk_Stretch c
  have kc_Stretch := h_kc_Stretch c
  have at_Stretch_degrees_at := h_at_Stretch_degrees_at c
  have fn_Stretch_degrees_at := h_fn_Stretch_degrees_at c
  have kp_Stretch_degrees_at := h_kp_Stretch_degrees_at c
  have at_Stretch_continued := h_at_Stretch_continued c
  have fn_Stretch_continued := h_fn_Stretch_continued c
  have kp_Stretch_continued := h_kp_Stretch_continued c
  have at_Stretch_switched := h_at_Stretch_switched c
  have fn_Stretch_switched := h_fn_Stretch_switched c
  have kp_Stretch_switched := h_kp_Stretch_switched c
  have at_Stretch_extreme_before := h_at_Stretch_extreme_before c
  have fn_Stretch_extreme_before := h_fn_Stretch_extreme_before c
  have kp_Stretch_extreme_before := h_kp_Stretch_extreme_before c
  have at_more_extreme := h_at_more_extreme c
  have kp_more_extreme := h_kp_more_extreme c
  have at_check_number := h_at_check_number c
  have kp_check_number := h_kp_check_number c
  have at_Weather_init := h_at_Weather_init c
  have fn_Weather_init := h_fn_Weather_init c
  have kp_Weather_init := h_kp_Weather_init c
  have mk_Weather := h_mk_Weather c
  have kc_Weather := h_kc_Weather c
  have at_check_gain := h_at_check_gain c
  have kp_check_gain := h_kp_check_gain c
  have at_ThresholdObserver_init := h_at_ThresholdObserver_init c
  have fn_ThresholdObserver_init := h_fn_ThresholdObserver_init c
  have kp_ThresholdObserver_init := h_kp_ThresholdObserver_init c
  have kd_ThresholdObserver_init := h_kd_ThresholdObserver_init c
  have mk_ThresholdObserver := h_mk_ThresholdObserver c
  have kc_ThresholdObserver := h_kc_ThresholdObserver c
  have at_ThresholdObserver_see_switching := h_at_ThresholdObserver_see_switching c
  have fn_ThresholdObserver_see_switching := h_fn_ThresholdObserver_see_switching c
  have kp_ThresholdObserver_see_switching := h_kp_ThresholdObserver_see_switching c
  have at_ThresholdObserver_see_rest := h_at_ThresholdObserver_see_rest c
  have fn_ThresholdObserver_see_rest := h_fn_ThresholdObserver_see_rest c
  have kp_ThresholdObserver_see_rest := h_kp_ThresholdObserver_see_rest c
  have at_ThresholdObserver_ranges_after_rest := h_at_ThresholdObserver_ranges_after_rest c
  have fn_ThresholdObserver_ranges_after_rest := h_fn_ThresholdObserver_ranges_after_rest c
  have kp_ThresholdObserver_ranges_after_rest := h_kp_ThresholdObserver_ranges_after_rest c
  have at_ThresholdObserver_accept := h_at_ThresholdObserver_accept c
  have fn_ThresholdObserver_accept := h_fn_ThresholdObserver_accept c
  have kp_ThresholdObserver_accept := h_kp_ThresholdObserver_accept c
  have at_check_ranges := h_at_check_ranges c
  have kp_check_ranges := h_kp_check_ranges c
  have at__law_mix := h_at__law_mix c
  have kp__law_mix := h_kp__law_mix c
  have at__law_next := h_at__law_next c
  have kp__law_next := h_kp__law_next c
  have at__law_alike := h_at__law_alike c
  have kp__law_alike := h_kp__law_alike c
  have at__law_error := h_at__law_error c
  have kp__law_error := h_kp__law_error c
  have at__law_changes := h_at__law_changes c
  have kp__law_changes := h_kp__law_changes c
  have at__law_weather := h_at__law_weather c
  have kp__law_weather := h_kp__law_weather c
  have at__law_setting := h_at__law_setting c
  have kp__law_setting := h_kp__law_setting c
  have at__law_told := h_at__law_told c
  have kp__law_told := h_kp__law_told c
  have at__law_agrees := h_at__law_agrees c
  have kp__law_agrees := h_kp__law_agrees c
  have at__law_ranges := h_at__law_ranges c
  have kp__law_ranges := h_kp__law_ranges c
  have at__law_ends_right := h_at__law_ends_right c
  have kp__law_ends_right := h_kp__law_ends_right c
  have at_law := h_at_law c
  have kp_law := h_kp_law c
  have at_Weather_changes := h_at_Weather_changes c
  have gt_Weather_changes := h_gt_Weather_changes c
  have tk_Weather_changes := h_tk_Weather_changes c
  have rc_Weather_changes := h_rc_Weather_changes c
  have kp_Weather_changes := h_kp_Weather_changes c
  have at_ThresholdObserver_low_range := h_at_ThresholdObserver_low_range c
  have gt_ThresholdObserver_low_range := h_gt_ThresholdObserver_low_range c
  have tk_ThresholdObserver_low_range := h_tk_ThresholdObserver_low_range c
  have rc_ThresholdObserver_low_range := h_rc_ThresholdObserver_low_range c
  have kp_ThresholdObserver_low_range := h_kp_ThresholdObserver_low_range c
  have at_ThresholdObserver_high_range := h_at_ThresholdObserver_high_range c
  have gt_ThresholdObserver_high_range := h_gt_ThresholdObserver_high_range c
  have tk_ThresholdObserver_high_range := h_tk_ThresholdObserver_high_range c
  have rc_ThresholdObserver_high_range := h_rc_ThresholdObserver_high_range c
  have kp_ThresholdObserver_high_range := h_kp_ThresholdObserver_high_range c
  have at_ThresholdObserver_seen_ticks := h_at_ThresholdObserver_seen_ticks c
  have gt_ThresholdObserver_seen_ticks := h_gt_ThresholdObserver_seen_ticks c
  have tk_ThresholdObserver_seen_ticks := h_tk_ThresholdObserver_seen_ticks c
  have rc_ThresholdObserver_seen_ticks := h_rc_ThresholdObserver_seen_ticks c
  have kp_ThresholdObserver_seen_ticks := h_kp_ThresholdObserver_seen_ticks c
  have at_ThresholdObserver_records := h_at_ThresholdObserver_records c
  have gt_ThresholdObserver_records := h_gt_ThresholdObserver_records c
  have tk_ThresholdObserver_records := h_tk_ThresholdObserver_records c
  have rc_ThresholdObserver_records := h_rc_ThresholdObserver_records c
  have kp_ThresholdObserver_records := h_kp_ThresholdObserver_records c
  obtain ⟨t_MOST_TICKS, gl_MOST_TICKS⟩ := h_gl_MOST_TICKS c
  obtain ⟨t_MOST_GAIN, gl_MOST_GAIN⟩ := h_gl_MOST_GAIN c
  obtain ⟨t_MOST_DEGREES, gl_MOST_DEGREES⟩ := h_gl_MOST_DEGREES c
  have z_abs := h_z_abs c
  have z_bool := h_z_bool c
  have z_dict := h_z_dict c
  have z_divmod := h_z_divmod c
  have z_enumerate := h_z_enumerate c
  have z_int := h_z_int c
  have z_isinstance := h_z_isinstance c
  have z_len := h_z_len c
  have z_list := h_z_list c
  have z_max := h_z_max c
  have z_min := h_z_min c
  have z_range := h_z_range c
  have z_sorted := h_z_sorted c
  have z_str := h_z_str c
  have z_sum := h_z_sum c
  have z_tuple := h_z_tuple c
  obtain ⟨t_Weather_MAX_CHANGE, cv_Weather_MAX_CHANGE, gg_Weather_MAX_CHANGE⟩ := h_cv_Weather_MAX_CHANGE c
  obtain ⟨t_Weather_MAX_TICKS, cv_Weather_MAX_TICKS, gg_Weather_MAX_TICKS⟩ := h_cv_Weather_MAX_TICKS c
  obtain ⟨oc_first_invalid, od_first_invalid, osl_first_invalid, kV_first_invalid, dc_first_invalid, pm_first_invalid, an_first_invalid, cd_first_invalid, ct_first_invalid, lk_first_invalid, co_first_invalid⟩ := Hq.mo_ok (h_def_first_invalid c) (h_co_first_invalid c)
  obtain ⟨oc_Drift_init, od_Drift_init, osl_Drift_init, kV_Drift_init, dc_Drift_init, pm_Drift_init, an_Drift_init, cd_Drift_init, ct_Drift_init, lk_Drift_init, co_Drift_init⟩ := Hq.mo_ok (h_def_Drift_init c) (h_co_Drift_init c)
  obtain ⟨oc_Drift_sum_to, od_Drift_sum_to, osl_Drift_sum_to, kV_Drift_sum_to, dc_Drift_sum_to, pm_Drift_sum_to, an_Drift_sum_to, cd_Drift_sum_to, ct_Drift_sum_to, lk_Drift_sum_to, co_Drift_sum_to⟩ := Hq.mo_ok (h_def_Drift_sum_to c) (h_co_Drift_sum_to c)
  obtain ⟨oc_both_drifts, od_both_drifts, osl_both_drifts, kV_both_drifts, dc_both_drifts, pm_both_drifts, an_both_drifts, cd_both_drifts, ct_both_drifts, lk_both_drifts, co_both_drifts⟩ := Hq.mo_ok (h_def_both_drifts c) (h_co_both_drifts c)
  obtain ⟨oc_Stretch_init, od_Stretch_init, osl_Stretch_init, kV_Stretch_init, dc_Stretch_init, pm_Stretch_init, an_Stretch_init, cd_Stretch_init, ct_Stretch_init, lk_Stretch_init, co_Stretch_init⟩ := Hq.mo_ok (h_def_Stretch_init c) (h_co_Stretch_init c)
  obtain ⟨oc_Stretch_degrees_at, od_Stretch_degrees_at, osl_Stretch_degrees_at, kV_Stretch_degrees_at, dc_Stretch_degrees_at, pm_Stretch_degrees_at, an_Stretch_degrees_at, cd_Stretch_degrees_at, ct_Stretch_degrees_at, lk_Stretch_degrees_at, co_Stretch_degrees_at⟩ := Hq.mo_ok (h_def_Stretch_degrees_at c) (h_co_Stretch_degrees_at c)
  obtain ⟨oc_Stretch_continued, od_Stretch_continued, osl_Stretch_continued, kV_Stretch_continued, dc_Stretch_continued, pm_Stretch_continued, an_Stretch_continued, cd_Stretch_continued, ct_Stretch_continued, lk_Stretch_continued, co_Stretch_continued⟩ := Hq.mo_ok (h_def_Stretch_continued c) (h_co_Stretch_continued c)
  obtain ⟨oc_Stretch_switched, od_Stretch_switched, osl_Stretch_switched, kV_Stretch_switched, dc_Stretch_switched, pm_Stretch_switched, an_Stretch_switched, cd_Stretch_switched, ct_Stretch_switched, lk_Stretch_switched, co_Stretch_switched⟩ := Hq.mo_ok (h_def_Stretch_switched c) (h_co_Stretch_switched c)
  obtain ⟨oc_Stretch_extreme_before, od_Stretch_extreme_before, osl_Stretch_extreme_before, kV_Stretch_extreme_before, dc_Stretch_extreme_before, pm_Stretch_extreme_before, an_Stretch_extreme_before, cd_Stretch_extreme_before, ct_Stretch_extreme_before, lk_Stretch_extreme_before, co_Stretch_extreme_before⟩ := Hq.mo_ok (h_def_Stretch_extreme_before c) (h_co_Stretch_extreme_before c)
  obtain ⟨oc_more_extreme, od_more_extreme, osl_more_extreme, kV_more_extreme, dc_more_extreme, pm_more_extreme, an_more_extreme, cd_more_extreme, ct_more_extreme, lk_more_extreme, co_more_extreme⟩ := Hq.mo_ok (h_def_more_extreme c) (h_co_more_extreme c)
  obtain ⟨oc_check_number, od_check_number, osl_check_number, kV_check_number, dc_check_number, pm_check_number, an_check_number, cd_check_number, ct_check_number, lk_check_number, co_check_number⟩ := Hq.mo_ok (h_def_check_number c) (h_co_check_number c)
  obtain ⟨oc_Weather_init, od_Weather_init, osl_Weather_init, kV_Weather_init, dc_Weather_init, pm_Weather_init, an_Weather_init, cd_Weather_init, ct_Weather_init, lk_Weather_init, co_Weather_init⟩ := Hq.mo_ok (h_def_Weather_init c) (h_co_Weather_init c)
  obtain ⟨oc_check_gain, od_check_gain, osl_check_gain, kV_check_gain, dc_check_gain, pm_check_gain, an_check_gain, cd_check_gain, ct_check_gain, lk_check_gain, co_check_gain⟩ := Hq.mo_ok (h_def_check_gain c) (h_co_check_gain c)
  obtain ⟨oc_ThresholdObserver_init, od_ThresholdObserver_init, osl_ThresholdObserver_init, dc_ThresholdObserver_init, pm_ThresholdObserver_init, an_ThresholdObserver_init, cd_ThresholdObserver_init, ct_ThresholdObserver_init, lk_ThresholdObserver_init, co_ThresholdObserver_init⟩ := Hq.mo_okK (h_def_ThresholdObserver_init c) (h_co_ThresholdObserver_init c) (h_kw_ThresholdObserver_init c)
  obtain ⟨oc_ThresholdObserver_see_switching, od_ThresholdObserver_see_switching, osl_ThresholdObserver_see_switching, kV_ThresholdObserver_see_switching, dc_ThresholdObserver_see_switching, pm_ThresholdObserver_see_switching, an_ThresholdObserver_see_switching, cd_ThresholdObserver_see_switching, ct_ThresholdObserver_see_switching, lk_ThresholdObserver_see_switching, co_ThresholdObserver_see_switching⟩ := Hq.mo_ok (h_def_ThresholdObserver_see_switching c) (h_co_ThresholdObserver_see_switching c)
  obtain ⟨oc_ThresholdObserver_see_rest, od_ThresholdObserver_see_rest, osl_ThresholdObserver_see_rest, kV_ThresholdObserver_see_rest, dc_ThresholdObserver_see_rest, pm_ThresholdObserver_see_rest, an_ThresholdObserver_see_rest, cd_ThresholdObserver_see_rest, ct_ThresholdObserver_see_rest, lk_ThresholdObserver_see_rest, co_ThresholdObserver_see_rest⟩ := Hq.mo_ok (h_def_ThresholdObserver_see_rest c) (h_co_ThresholdObserver_see_rest c)
  obtain ⟨oc_ThresholdObserver_ranges_after_rest, od_ThresholdObserver_ranges_after_rest, osl_ThresholdObserver_ranges_after_rest, kV_ThresholdObserver_ranges_after_rest, dc_ThresholdObserver_ranges_after_rest, pm_ThresholdObserver_ranges_after_rest, an_ThresholdObserver_ranges_after_rest, cd_ThresholdObserver_ranges_after_rest, ct_ThresholdObserver_ranges_after_rest, lk_ThresholdObserver_ranges_after_rest, co_ThresholdObserver_ranges_after_rest⟩ := Hq.mo_ok (h_def_ThresholdObserver_ranges_after_rest c) (h_co_ThresholdObserver_ranges_after_rest c)
  obtain ⟨oc_ThresholdObserver_accept, od_ThresholdObserver_accept, osl_ThresholdObserver_accept, kV_ThresholdObserver_accept, dc_ThresholdObserver_accept, pm_ThresholdObserver_accept, an_ThresholdObserver_accept, cd_ThresholdObserver_accept, ct_ThresholdObserver_accept, lk_ThresholdObserver_accept, co_ThresholdObserver_accept⟩ := Hq.mo_ok (h_def_ThresholdObserver_accept c) (h_co_ThresholdObserver_accept c)
  obtain ⟨oc_check_ranges, od_check_ranges, osl_check_ranges, kV_check_ranges, dc_check_ranges, pm_check_ranges, an_check_ranges, cd_check_ranges, ct_check_ranges, lk_check_ranges, co_check_ranges⟩ := Hq.mo_ok (h_def_check_ranges c) (h_co_check_ranges c)
  obtain ⟨oc__law_mix, od__law_mix, osl__law_mix, kV__law_mix, dc__law_mix, pm__law_mix, an__law_mix, cd__law_mix, ct__law_mix, lk__law_mix, co__law_mix⟩ := Hq.mo_ok (h_def__law_mix c) (h_co__law_mix c)
  obtain ⟨oc__law_next, od__law_next, osl__law_next, kV__law_next, dc__law_next, pm__law_next, an__law_next, cd__law_next, ct__law_next, lk__law_next, co__law_next⟩ := Hq.mo_ok (h_def__law_next c) (h_co__law_next c)
  obtain ⟨oc__law_alike, od__law_alike, osl__law_alike, kV__law_alike, dc__law_alike, pm__law_alike, an__law_alike, cd__law_alike, ct__law_alike, lk__law_alike, co__law_alike⟩ := Hq.mo_ok (h_def__law_alike c) (h_co__law_alike c)
  obtain ⟨oc__law_error, od__law_error, osl__law_error, kV__law_error, dc__law_error, pm__law_error, an__law_error, cd__law_error, ct__law_error, lk__law_error, co__law_error⟩ := Hq.mo_ok (h_def__law_error c) (h_co__law_error c)
  obtain ⟨oc__law_changes, od__law_changes, osl__law_changes, kV__law_changes, dc__law_changes, pm__law_changes, an__law_changes, cd__law_changes, ct__law_changes, lk__law_changes, co__law_changes⟩ := Hq.mo_ok (h_def__law_changes c) (h_co__law_changes c)
  obtain ⟨oc__law_weather, od__law_weather, osl__law_weather, kV__law_weather, dc__law_weather, pm__law_weather, an__law_weather, cd__law_weather, ct__law_weather, lk__law_weather, co__law_weather⟩ := Hq.mo_ok (h_def__law_weather c) (h_co__law_weather c)
  obtain ⟨oc__law_setting, od__law_setting, osl__law_setting, kV__law_setting, dc__law_setting, pm__law_setting, an__law_setting, cd__law_setting, ct__law_setting, lk__law_setting, co__law_setting⟩ := Hq.mo_ok (h_def__law_setting c) (h_co__law_setting c)
  obtain ⟨oc__law_told, od__law_told, osl__law_told, kV__law_told, dc__law_told, pm__law_told, an__law_told, cd__law_told, ct__law_told, lk__law_told, co__law_told⟩ := Hq.mo_ok (h_def__law_told c) (h_co__law_told c)
  obtain ⟨oc__law_agrees, od__law_agrees, osl__law_agrees, kV__law_agrees, dc__law_agrees, pm__law_agrees, an__law_agrees, cd__law_agrees, ct__law_agrees, lk__law_agrees, co__law_agrees⟩ := Hq.mo_ok (h_def__law_agrees c) (h_co__law_agrees c)
  obtain ⟨oc__law_ranges, od__law_ranges, osl__law_ranges, kV__law_ranges, dc__law_ranges, pm__law_ranges, an__law_ranges, cd__law_ranges, ct__law_ranges, lk__law_ranges, co__law_ranges⟩ := Hq.mo_ok (h_def__law_ranges c) (h_co__law_ranges c)
  obtain ⟨oc__law_ends_right, od__law_ends_right, osl__law_ends_right, kV__law_ends_right, dc__law_ends_right, pm__law_ends_right, an__law_ends_right, cd__law_ends_right, ct__law_ends_right, lk__law_ends_right, co__law_ends_right⟩ := Hq.mo_ok (h_def__law_ends_right c) (h_co__law_ends_right c)
  obtain ⟨oc_law, od_law, osl_law, kV_law, dc_law, pm_law, an_law, cd_law, ct_law, lk_law, co_law⟩ := Hq.mo_ok (h_def_law c) (h_co_law c)
  obtain ⟨oc_Weather_changes, od_Weather_changes, osl_Weather_changes, kV_Weather_changes, dc_Weather_changes, pm_Weather_changes, an_Weather_changes, cd_Weather_changes, ct_Weather_changes, lk_Weather_changes, co_Weather_changes⟩ := Hq.mo_ok (h_def_Weather_changes c) (h_co_Weather_changes c)
  obtain ⟨oc_ThresholdObserver_low_range, od_ThresholdObserver_low_range, osl_ThresholdObserver_low_range, kV_ThresholdObserver_low_range, dc_ThresholdObserver_low_range, pm_ThresholdObserver_low_range, an_ThresholdObserver_low_range, cd_ThresholdObserver_low_range, ct_ThresholdObserver_low_range, lk_ThresholdObserver_low_range, co_ThresholdObserver_low_range⟩ := Hq.mo_ok (h_def_ThresholdObserver_low_range c) (h_co_ThresholdObserver_low_range c)
  obtain ⟨oc_ThresholdObserver_high_range, od_ThresholdObserver_high_range, osl_ThresholdObserver_high_range, kV_ThresholdObserver_high_range, dc_ThresholdObserver_high_range, pm_ThresholdObserver_high_range, an_ThresholdObserver_high_range, cd_ThresholdObserver_high_range, ct_ThresholdObserver_high_range, lk_ThresholdObserver_high_range, co_ThresholdObserver_high_range⟩ := Hq.mo_ok (h_def_ThresholdObserver_high_range c) (h_co_ThresholdObserver_high_range c)
  obtain ⟨oc_ThresholdObserver_seen_ticks, od_ThresholdObserver_seen_ticks, osl_ThresholdObserver_seen_ticks, kV_ThresholdObserver_seen_ticks, dc_ThresholdObserver_seen_ticks, pm_ThresholdObserver_seen_ticks, an_ThresholdObserver_seen_ticks, cd_ThresholdObserver_seen_ticks, ct_ThresholdObserver_seen_ticks, lk_ThresholdObserver_seen_ticks, co_ThresholdObserver_seen_ticks⟩ := Hq.mo_ok (h_def_ThresholdObserver_seen_ticks c) (h_co_ThresholdObserver_seen_ticks c)
  obtain ⟨oc_ThresholdObserver_records, od_ThresholdObserver_records, osl_ThresholdObserver_records, kV_ThresholdObserver_records, dc_ThresholdObserver_records, pm_ThresholdObserver_records, an_ThresholdObserver_records, cd_ThresholdObserver_records, ct_ThresholdObserver_records, lk_ThresholdObserver_records, co_ThresholdObserver_records⟩ := Hq.mo_ok (h_def_ThresholdObserver_records c) (h_co_ThresholdObserver_records c)
  have ea := hfa.symm.trans (PySem.W.mg_of X G at_law)
  have ea : fa = He.ga K "law" := by injection ea with ea; injection ea
  obtain ⟨cl_law, ecl_law⟩ := He.codeIn_ref co_law
  have ecT_law : He.cT K ("law", none) = (cl_law, He.tabOf K cl_law) := by
    have e : He.codeOf K ("law", none) = cl_law := He.codeOf_eq (p := ("law", none)) lk_law ecl_law
    unfold He.cT
    rw [e]
  have mem_law : (cl_law, He.tabOf K cl_law) ∈ hS.cs K := by rw [← ecT_law]; exact List.mem_cons_self
  have T : Txt K mg {
      c_Drift := He.ga K "Drift"
      c_Stretch := He.ga K "Stretch"
      c_Weather := He.ga K "Weather"
      c_ThresholdObserver := He.ga K "ThresholdObserver"
      f_first_invalid := (He.ga K "first_invalid")
      d_first_invalid := PySem.W.fnOf "first_invalid" "first_invalid" (defArgs s_first_invalid) (defBody s_first_invalid) (defScope s_first_invalid) .none kV_first_invalid dc_first_invalid pm_first_invalid an_first_invalid cd_first_invalid ct_first_invalid
      f_Drift_init := (He.ma K (He.ga K "Drift") "__init__")
      d_Drift_init := PySem.W.fnOf "__init__" "Drift.__init__" (defArgs s_Drift_init) (defBody s_Drift_init) (defScope s_Drift_init) .none kV_Drift_init dc_Drift_init pm_Drift_init an_Drift_init cd_Drift_init ct_Drift_init
      f_Drift_sum_to := (He.ma K (He.ga K "Drift") "sum_to")
      d_Drift_sum_to := PySem.W.fnOf "sum_to" "Drift.sum_to" (defArgs s_Drift_sum_to) (defBody s_Drift_sum_to) (defScope s_Drift_sum_to) .none kV_Drift_sum_to dc_Drift_sum_to pm_Drift_sum_to an_Drift_sum_to cd_Drift_sum_to ct_Drift_sum_to
      f_both_drifts := (He.ga K "both_drifts")
      d_both_drifts := PySem.W.fnOf "both_drifts" "both_drifts" (defArgs s_both_drifts) (defBody s_both_drifts) (defScope s_both_drifts) .none kV_both_drifts dc_both_drifts pm_both_drifts an_both_drifts cd_both_drifts ct_both_drifts
      f_Stretch_init := (He.ma K (He.ga K "Stretch") "__init__")
      d_Stretch_init := PySem.W.fnOf "__init__" "Stretch.__init__" (defArgs s_Stretch_init) (defBody s_Stretch_init) (defScope s_Stretch_init) .none kV_Stretch_init dc_Stretch_init pm_Stretch_init an_Stretch_init cd_Stretch_init ct_Stretch_init
      f_Stretch_degrees_at := (He.ma K (He.ga K "Stretch") "degrees_at")
      d_Stretch_degrees_at := PySem.W.fnOf "degrees_at" "Stretch.degrees_at" (defArgs s_Stretch_degrees_at) (defBody s_Stretch_degrees_at) (defScope s_Stretch_degrees_at) .none kV_Stretch_degrees_at dc_Stretch_degrees_at pm_Stretch_degrees_at an_Stretch_degrees_at cd_Stretch_degrees_at ct_Stretch_degrees_at
      f_Stretch_continued := (He.ma K (He.ga K "Stretch") "continued")
      d_Stretch_continued := PySem.W.fnOf "continued" "Stretch.continued" (defArgs s_Stretch_continued) (defBody s_Stretch_continued) (defScope s_Stretch_continued) .none kV_Stretch_continued dc_Stretch_continued pm_Stretch_continued an_Stretch_continued cd_Stretch_continued ct_Stretch_continued
      f_Stretch_switched := (He.ma K (He.ga K "Stretch") "switched")
      d_Stretch_switched := PySem.W.fnOf "switched" "Stretch.switched" (defArgs s_Stretch_switched) (defBody s_Stretch_switched) (defScope s_Stretch_switched) .none kV_Stretch_switched dc_Stretch_switched pm_Stretch_switched an_Stretch_switched cd_Stretch_switched ct_Stretch_switched
      f_Stretch_extreme_before := (He.ma K (He.ga K "Stretch") "extreme_before")
      d_Stretch_extreme_before := PySem.W.fnOf "extreme_before" "Stretch.extreme_before" (defArgs s_Stretch_extreme_before) (defBody s_Stretch_extreme_before) (defScope s_Stretch_extreme_before) .none kV_Stretch_extreme_before dc_Stretch_extreme_before pm_Stretch_extreme_before an_Stretch_extreme_before cd_Stretch_extreme_before ct_Stretch_extreme_before
      f_more_extreme := (He.ga K "more_extreme")
      d_more_extreme := PySem.W.fnOf "more_extreme" "more_extreme" (defArgs s_more_extreme) (defBody s_more_extreme) (defScope s_more_extreme) .none kV_more_extreme dc_more_extreme pm_more_extreme an_more_extreme cd_more_extreme ct_more_extreme
      f_check_number := (He.ga K "check_number")
      d_check_number := PySem.W.fnOf "check_number" "check_number" (defArgs s_check_number) (defBody s_check_number) (defScope s_check_number) .none kV_check_number dc_check_number pm_check_number an_check_number cd_check_number ct_check_number
      f_Weather_init := (He.ma K (He.ga K "Weather") "__init__")
      d_Weather_init := PySem.W.fnOf "__init__" "Weather.__init__" (defArgs s_Weather_init) (defBody s_Weather_init) (defScope s_Weather_init) .none kV_Weather_init dc_Weather_init pm_Weather_init an_Weather_init cd_Weather_init ct_Weather_init
      f_check_gain := (He.ga K "check_gain")
      d_check_gain := PySem.W.fnOf "check_gain" "check_gain" (defArgs s_check_gain) (defBody s_check_gain) (defScope s_check_gain) .none kV_check_gain dc_check_gain pm_check_gain an_check_gain cd_check_gain ct_check_gain
      f_ThresholdObserver_init := (He.ma K (He.ga K "ThresholdObserver") "__init__")
      d_ThresholdObserver_init := PySem.W.fnOf "__init__" "ThresholdObserver.__init__" (defArgs s_ThresholdObserver_init) (defBody s_ThresholdObserver_init) (defScope s_ThresholdObserver_init) .none (.ref (Hq.kwA K (He.ma K (He.ga K "ThresholdObserver") "__init__"))) dc_ThresholdObserver_init pm_ThresholdObserver_init an_ThresholdObserver_init cd_ThresholdObserver_init ct_ThresholdObserver_init
      f_ThresholdObserver_see_switching := (He.ma K (He.ga K "ThresholdObserver") "see_switching")
      d_ThresholdObserver_see_switching := PySem.W.fnOf "see_switching" "ThresholdObserver.see_switching" (defArgs s_ThresholdObserver_see_switching) (defBody s_ThresholdObserver_see_switching) (defScope s_ThresholdObserver_see_switching) .none kV_ThresholdObserver_see_switching dc_ThresholdObserver_see_switching pm_ThresholdObserver_see_switching an_ThresholdObserver_see_switching cd_ThresholdObserver_see_switching ct_ThresholdObserver_see_switching
      f_ThresholdObserver_see_rest := (He.ma K (He.ga K "ThresholdObserver") "see_rest")
      d_ThresholdObserver_see_rest := PySem.W.fnOf "see_rest" "ThresholdObserver.see_rest" (defArgs s_ThresholdObserver_see_rest) (defBody s_ThresholdObserver_see_rest) (defScope s_ThresholdObserver_see_rest) .none kV_ThresholdObserver_see_rest dc_ThresholdObserver_see_rest pm_ThresholdObserver_see_rest an_ThresholdObserver_see_rest cd_ThresholdObserver_see_rest ct_ThresholdObserver_see_rest
      f_ThresholdObserver_ranges_after_rest := (He.ma K (He.ga K "ThresholdObserver") "_ranges_after_rest")
      d_ThresholdObserver_ranges_after_rest := PySem.W.fnOf "_ranges_after_rest" "ThresholdObserver._ranges_after_rest" (defArgs s_ThresholdObserver_ranges_after_rest) (defBody s_ThresholdObserver_ranges_after_rest) (defScope s_ThresholdObserver_ranges_after_rest) .none kV_ThresholdObserver_ranges_after_rest dc_ThresholdObserver_ranges_after_rest pm_ThresholdObserver_ranges_after_rest an_ThresholdObserver_ranges_after_rest cd_ThresholdObserver_ranges_after_rest ct_ThresholdObserver_ranges_after_rest
      f_ThresholdObserver_accept := (He.ma K (He.ga K "ThresholdObserver") "_accept")
      d_ThresholdObserver_accept := PySem.W.fnOf "_accept" "ThresholdObserver._accept" (defArgs s_ThresholdObserver_accept) (defBody s_ThresholdObserver_accept) (defScope s_ThresholdObserver_accept) .none kV_ThresholdObserver_accept dc_ThresholdObserver_accept pm_ThresholdObserver_accept an_ThresholdObserver_accept cd_ThresholdObserver_accept ct_ThresholdObserver_accept
      f_check_ranges := (He.ga K "check_ranges")
      d_check_ranges := PySem.W.fnOf "check_ranges" "check_ranges" (defArgs s_check_ranges) (defBody s_check_ranges) (defScope s_check_ranges) .none kV_check_ranges dc_check_ranges pm_check_ranges an_check_ranges cd_check_ranges ct_check_ranges
      f__law_mix := (He.ga K "_law_mix")
      d__law_mix := PySem.W.fnOf "_law_mix" "_law_mix" (defArgs s__law_mix) (defBody s__law_mix) (defScope s__law_mix) .none kV__law_mix dc__law_mix pm__law_mix an__law_mix cd__law_mix ct__law_mix
      f__law_next := (He.ga K "_law_next")
      d__law_next := PySem.W.fnOf "_law_next" "_law_next" (defArgs s__law_next) (defBody s__law_next) (defScope s__law_next) .none kV__law_next dc__law_next pm__law_next an__law_next cd__law_next ct__law_next
      f__law_alike := (He.ga K "_law_alike")
      d__law_alike := PySem.W.fnOf "_law_alike" "_law_alike" (defArgs s__law_alike) (defBody s__law_alike) (defScope s__law_alike) .none kV__law_alike dc__law_alike pm__law_alike an__law_alike cd__law_alike ct__law_alike
      f__law_error := (He.ga K "_law_error")
      d__law_error := PySem.W.fnOf "_law_error" "_law_error" (defArgs s__law_error) (defBody s__law_error) (defScope s__law_error) .none kV__law_error dc__law_error pm__law_error an__law_error cd__law_error ct__law_error
      f__law_changes := (He.ga K "_law_changes")
      d__law_changes := PySem.W.fnOf "_law_changes" "_law_changes" (defArgs s__law_changes) (defBody s__law_changes) (defScope s__law_changes) .none kV__law_changes dc__law_changes pm__law_changes an__law_changes cd__law_changes ct__law_changes
      f__law_weather := (He.ga K "_law_weather")
      d__law_weather := PySem.W.fnOf "_law_weather" "_law_weather" (defArgs s__law_weather) (defBody s__law_weather) (defScope s__law_weather) .none kV__law_weather dc__law_weather pm__law_weather an__law_weather cd__law_weather ct__law_weather
      f__law_setting := (He.ga K "_law_setting")
      d__law_setting := PySem.W.fnOf "_law_setting" "_law_setting" (defArgs s__law_setting) (defBody s__law_setting) (defScope s__law_setting) .none kV__law_setting dc__law_setting pm__law_setting an__law_setting cd__law_setting ct__law_setting
      f__law_told := (He.ga K "_law_told")
      d__law_told := PySem.W.fnOf "_law_told" "_law_told" (defArgs s__law_told) (defBody s__law_told) (defScope s__law_told) .none kV__law_told dc__law_told pm__law_told an__law_told cd__law_told ct__law_told
      f__law_agrees := (He.ga K "_law_agrees")
      d__law_agrees := PySem.W.fnOf "_law_agrees" "_law_agrees" (defArgs s__law_agrees) (defBody s__law_agrees) (defScope s__law_agrees) .none kV__law_agrees dc__law_agrees pm__law_agrees an__law_agrees cd__law_agrees ct__law_agrees
      f__law_ranges := (He.ga K "_law_ranges")
      d__law_ranges := PySem.W.fnOf "_law_ranges" "_law_ranges" (defArgs s__law_ranges) (defBody s__law_ranges) (defScope s__law_ranges) .none kV__law_ranges dc__law_ranges pm__law_ranges an__law_ranges cd__law_ranges ct__law_ranges
      f__law_ends_right := (He.ga K "_law_ends_right")
      d__law_ends_right := PySem.W.fnOf "_law_ends_right" "_law_ends_right" (defArgs s__law_ends_right) (defBody s__law_ends_right) (defScope s__law_ends_right) .none kV__law_ends_right dc__law_ends_right pm__law_ends_right an__law_ends_right cd__law_ends_right ct__law_ends_right
      f_law := (He.ga K "law")
      d_law := PySem.W.fnOf "law" "law" (defArgs s_law) (defBody s_law) (defScope s_law) .none kV_law dc_law pm_law an_law cd_law ct_law
      f_Weather_changes := (Hq.gtA K (He.ma K (He.ga K "Weather") "changes"))
      d_Weather_changes := PySem.W.fnOf "changes" "Weather.changes" (defArgs s_Weather_changes) (defBody s_Weather_changes) (defScope s_Weather_changes) .none kV_Weather_changes dc_Weather_changes pm_Weather_changes an_Weather_changes cd_Weather_changes ct_Weather_changes
      f_ThresholdObserver_low_range := (Hq.gtA K (He.ma K (He.ga K "ThresholdObserver") "low_range"))
      d_ThresholdObserver_low_range := PySem.W.fnOf "low_range" "ThresholdObserver.low_range" (defArgs s_ThresholdObserver_low_range) (defBody s_ThresholdObserver_low_range) (defScope s_ThresholdObserver_low_range) .none kV_ThresholdObserver_low_range dc_ThresholdObserver_low_range pm_ThresholdObserver_low_range an_ThresholdObserver_low_range cd_ThresholdObserver_low_range ct_ThresholdObserver_low_range
      f_ThresholdObserver_high_range := (Hq.gtA K (He.ma K (He.ga K "ThresholdObserver") "high_range"))
      d_ThresholdObserver_high_range := PySem.W.fnOf "high_range" "ThresholdObserver.high_range" (defArgs s_ThresholdObserver_high_range) (defBody s_ThresholdObserver_high_range) (defScope s_ThresholdObserver_high_range) .none kV_ThresholdObserver_high_range dc_ThresholdObserver_high_range pm_ThresholdObserver_high_range an_ThresholdObserver_high_range cd_ThresholdObserver_high_range ct_ThresholdObserver_high_range
      f_ThresholdObserver_seen_ticks := (Hq.gtA K (He.ma K (He.ga K "ThresholdObserver") "seen_ticks"))
      d_ThresholdObserver_seen_ticks := PySem.W.fnOf "seen_ticks" "ThresholdObserver.seen_ticks" (defArgs s_ThresholdObserver_seen_ticks) (defBody s_ThresholdObserver_seen_ticks) (defScope s_ThresholdObserver_seen_ticks) .none kV_ThresholdObserver_seen_ticks dc_ThresholdObserver_seen_ticks pm_ThresholdObserver_seen_ticks an_ThresholdObserver_seen_ticks cd_ThresholdObserver_seen_ticks ct_ThresholdObserver_seen_ticks
      f_ThresholdObserver_records := (Hq.gtA K (He.ma K (He.ga K "ThresholdObserver") "records"))
      d_ThresholdObserver_records := PySem.W.fnOf "records" "ThresholdObserver.records" (defArgs s_ThresholdObserver_records) (defBody s_ThresholdObserver_records) (defScope s_ThresholdObserver_records) .none kV_ThresholdObserver_records dc_ThresholdObserver_records pm_ThresholdObserver_records an_ThresholdObserver_records cd_ThresholdObserver_records ct_ThresholdObserver_records
      p_Weather_changes := He.ma K (He.ga K "Weather") "changes"
      p_ThresholdObserver_low_range := He.ma K (He.ga K "ThresholdObserver") "low_range"
      p_ThresholdObserver_high_range := He.ma K (He.ga K "ThresholdObserver") "high_range"
      p_ThresholdObserver_seen_ticks := He.ma K (He.ga K "ThresholdObserver") "seen_ticks"
      p_ThresholdObserver_records := He.ma K (He.ga K "ThresholdObserver") "records"
      c_Heater := 0
      c_Timeline := 0
      c_Course := 0
      c_HeatingSum := 0
      c_Room := 0 } := {
      cl_Drift := ⟨pg_Drift, hd_Drift, po_Drift, sa_Drift⟩
      mg_Drift := PySem.W.mg_of X G ns_Drift
      na_Drift_round_ticks := na_Drift_round_ticks
      na_Drift_round_sum := na_Drift_round_sum
      na_Drift__sums := na_Drift__sums
      cl_Stretch := ⟨pg_Stretch, hd_Stretch, po_Stretch, sa_Stretch⟩
      mg_Stretch := PySem.W.mg_of X G ns_Stretch
      na_Stretch_on := na_Stretch_on
      na_Stretch_begin := na_Stretch_begin
      na_Stretch__drifts := na_Stretch__drifts
      na_Stretch__drift := na_Stretch__drift
      na_Stretch__base := na_Stretch__base
      cl_Weather := ⟨pg_Weather, hd_Weather, po_Weather, sa_Weather⟩
      mg_Weather := PySem.W.mg_of X G ns_Weather
      na_Weather__changes := na_Weather__changes
      cl_ThresholdObserver := ⟨pg_ThresholdObserver, hd_ThresholdObserver, po_ThresholdObserver, sa_ThresholdObserver⟩
      mg_ThresholdObserver := PySem.W.mg_of X G ns_ThresholdObserver
      na_ThresholdObserver__unseen := na_ThresholdObserver__unseen
      na_ThresholdObserver__lows := na_ThresholdObserver__lows
      na_ThresholdObserver__highs := na_ThresholdObserver__highs
      na_ThresholdObserver__accepted := na_ThresholdObserver__accepted
      F_first_invalid := fun_mk (st := s_first_invalid) lk_first_invalid co_first_invalid kp_first_invalid
      mg_first_invalid := PySem.W.mg_of X G at_first_invalid
      F_Drift_init := fun_mk (st := s_Drift_init) lk_Drift_init co_Drift_init kp_Drift_init
      mk_Drift := ⟨mk_Drift, at_Drift_init, fn_Drift_init, kc_Drift⟩
      F_Drift_sum_to := fun_mk (st := s_Drift_sum_to) lk_Drift_sum_to co_Drift_sum_to kp_Drift_sum_to
      me_Drift_sum_to := ⟨at_Drift_sum_to, fn_Drift_sum_to, kp_Drift_sum_to⟩
      F_both_drifts := fun_mk (st := s_both_drifts) lk_both_drifts co_both_drifts kp_both_drifts
      mg_both_drifts := PySem.W.mg_of X G at_both_drifts
      F_Stretch_init := fun_mk (st := s_Stretch_init) lk_Stretch_init co_Stretch_init kp_Stretch_init
      mk_Stretch := ⟨mk_Stretch, at_Stretch_init, fn_Stretch_init, kc_Stretch⟩
      F_Stretch_degrees_at := fun_mk (st := s_Stretch_degrees_at) lk_Stretch_degrees_at co_Stretch_degrees_at kp_Stretch_degrees_at
      me_Stretch_degrees_at := ⟨at_Stretch_degrees_at, fn_Stretch_degrees_at, kp_Stretch_degrees_at⟩
      F_Stretch_continued := fun_mk (st := s_Stretch_continued) lk_Stretch_continued co_Stretch_continued kp_Stretch_continued
      me_Stretch_continued := ⟨at_Stretch_continued, fn_Stretch_continued, kp_Stretch_continued⟩
      F_Stretch_switched := fun_mk (st := s_Stretch_switched) lk_Stretch_switched co_Stretch_switched kp_Stretch_switched
      me_Stretch_switched := ⟨at_Stretch_switched, fn_Stretch_switched, kp_Stretch_switched⟩
      F_Stretch_extreme_before := fun_mk (st := s_Stretch_extreme_before) lk_Stretch_extreme_before co_Stretch_extreme_before kp_Stretch_extreme_before
      me_Stretch_extreme_before := ⟨at_Stretch_extreme_before, fn_Stretch_extreme_before, kp_Stretch_extreme_before⟩
      F_more_extreme := fun_mk (st := s_more_extreme) lk_more_extreme co_more_extreme kp_more_extreme
      mg_more_extreme := PySem.W.mg_of X G at_more_extreme
      F_check_number := fun_mk (st := s_check_number) lk_check_number co_check_number kp_check_number
      mg_check_number := PySem.W.mg_of X G at_check_number
      F_Weather_init := fun_mk (st := s_Weather_init) lk_Weather_init co_Weather_init kp_Weather_init
      mk_Weather := ⟨mk_Weather, at_Weather_init, fn_Weather_init, kc_Weather⟩
      F_check_gain := fun_mk (st := s_check_gain) lk_check_gain co_check_gain kp_check_gain
      mg_check_gain := PySem.W.mg_of X G at_check_gain
      F_ThresholdObserver_init := ⟨⟨_, _, _, _, _, _, _, _, _, _, rfl, lk_ThresholdObserver_init, co_ThresholdObserver_init, .inl ⟨rfl, rfl⟩, .inr ⟨_, rfl, fun q hq => by obtain rfl := List.mem_singleton.mp hq; exact ⟨_, kd_ThresholdObserver_init, rfl⟩⟩⟩, kp_ThresholdObserver_init⟩
      mk_ThresholdObserver := ⟨mk_ThresholdObserver, at_ThresholdObserver_init, fn_ThresholdObserver_init, kc_ThresholdObserver⟩
      F_ThresholdObserver_see_switching := fun_mk (st := s_ThresholdObserver_see_switching) lk_ThresholdObserver_see_switching co_ThresholdObserver_see_switching kp_ThresholdObserver_see_switching
      me_ThresholdObserver_see_switching := ⟨at_ThresholdObserver_see_switching, fn_ThresholdObserver_see_switching, kp_ThresholdObserver_see_switching⟩
      F_ThresholdObserver_see_rest := fun_mk (st := s_ThresholdObserver_see_rest) lk_ThresholdObserver_see_rest co_ThresholdObserver_see_rest kp_ThresholdObserver_see_rest
      me_ThresholdObserver_see_rest := ⟨at_ThresholdObserver_see_rest, fn_ThresholdObserver_see_rest, kp_ThresholdObserver_see_rest⟩
      F_ThresholdObserver_ranges_after_rest := fun_mk (st := s_ThresholdObserver_ranges_after_rest) lk_ThresholdObserver_ranges_after_rest co_ThresholdObserver_ranges_after_rest kp_ThresholdObserver_ranges_after_rest
      me_ThresholdObserver_ranges_after_rest := ⟨at_ThresholdObserver_ranges_after_rest, fn_ThresholdObserver_ranges_after_rest, kp_ThresholdObserver_ranges_after_rest⟩
      F_ThresholdObserver_accept := fun_mk (st := s_ThresholdObserver_accept) lk_ThresholdObserver_accept co_ThresholdObserver_accept kp_ThresholdObserver_accept
      me_ThresholdObserver_accept := ⟨at_ThresholdObserver_accept, fn_ThresholdObserver_accept, kp_ThresholdObserver_accept⟩
      F_check_ranges := fun_mk (st := s_check_ranges) lk_check_ranges co_check_ranges kp_check_ranges
      mg_check_ranges := PySem.W.mg_of X G at_check_ranges
      F__law_mix := fun_mk (st := s__law_mix) lk__law_mix co__law_mix kp__law_mix
      mg__law_mix := PySem.W.mg_of X G at__law_mix
      F__law_next := fun_mk (st := s__law_next) lk__law_next co__law_next kp__law_next
      mg__law_next := PySem.W.mg_of X G at__law_next
      F__law_alike := fun_mk (st := s__law_alike) lk__law_alike co__law_alike kp__law_alike
      mg__law_alike := PySem.W.mg_of X G at__law_alike
      F__law_error := fun_mk (st := s__law_error) lk__law_error co__law_error kp__law_error
      mg__law_error := PySem.W.mg_of X G at__law_error
      F__law_changes := fun_mk (st := s__law_changes) lk__law_changes co__law_changes kp__law_changes
      mg__law_changes := PySem.W.mg_of X G at__law_changes
      F__law_weather := fun_mk (st := s__law_weather) lk__law_weather co__law_weather kp__law_weather
      mg__law_weather := PySem.W.mg_of X G at__law_weather
      F__law_setting := fun_mk (st := s__law_setting) lk__law_setting co__law_setting kp__law_setting
      mg__law_setting := PySem.W.mg_of X G at__law_setting
      F__law_told := fun_mk (st := s__law_told) lk__law_told co__law_told kp__law_told
      mg__law_told := PySem.W.mg_of X G at__law_told
      F__law_agrees := fun_mk (st := s__law_agrees) lk__law_agrees co__law_agrees kp__law_agrees
      mg__law_agrees := PySem.W.mg_of X G at__law_agrees
      F__law_ranges := fun_mk (st := s__law_ranges) lk__law_ranges co__law_ranges kp__law_ranges
      mg__law_ranges := PySem.W.mg_of X G at__law_ranges
      F__law_ends_right := fun_mk (st := s__law_ends_right) lk__law_ends_right co__law_ends_right kp__law_ends_right
      mg__law_ends_right := PySem.W.mg_of X G at__law_ends_right
      F_law := fun_mk (st := s_law) lk_law co_law kp_law
      mg_law := PySem.W.mg_of X G at_law
      pr_Weather_changes := ⟨at_Weather_changes, gt_Weather_changes, tk_Weather_changes, _, rc_Weather_changes⟩
      F_Weather_changes := fun_mk (st := s_Weather_changes) lk_Weather_changes co_Weather_changes kp_Weather_changes
      pr_ThresholdObserver_low_range := ⟨at_ThresholdObserver_low_range, gt_ThresholdObserver_low_range, tk_ThresholdObserver_low_range, _, rc_ThresholdObserver_low_range⟩
      F_ThresholdObserver_low_range := fun_mk (st := s_ThresholdObserver_low_range) lk_ThresholdObserver_low_range co_ThresholdObserver_low_range kp_ThresholdObserver_low_range
      pr_ThresholdObserver_high_range := ⟨at_ThresholdObserver_high_range, gt_ThresholdObserver_high_range, tk_ThresholdObserver_high_range, _, rc_ThresholdObserver_high_range⟩
      F_ThresholdObserver_high_range := fun_mk (st := s_ThresholdObserver_high_range) lk_ThresholdObserver_high_range co_ThresholdObserver_high_range kp_ThresholdObserver_high_range
      pr_ThresholdObserver_seen_ticks := ⟨at_ThresholdObserver_seen_ticks, gt_ThresholdObserver_seen_ticks, tk_ThresholdObserver_seen_ticks, _, rc_ThresholdObserver_seen_ticks⟩
      F_ThresholdObserver_seen_ticks := fun_mk (st := s_ThresholdObserver_seen_ticks) lk_ThresholdObserver_seen_ticks co_ThresholdObserver_seen_ticks kp_ThresholdObserver_seen_ticks
      pr_ThresholdObserver_records := ⟨at_ThresholdObserver_records, gt_ThresholdObserver_records, tk_ThresholdObserver_records, _, rc_ThresholdObserver_records⟩
      F_ThresholdObserver_records := fun_mk (st := s_ThresholdObserver_records) lk_ThresholdObserver_records co_ThresholdObserver_records kp_ThresholdObserver_records
      mg_MOST_TICKS := ⟨_, PySem.W.mg_of X G gl_MOST_TICKS⟩
      mg_MOST_GAIN := ⟨_, PySem.W.mg_of X G gl_MOST_GAIN⟩
      mg_MOST_DEGREES := ⟨_, PySem.W.mg_of X G gl_MOST_DEGREES⟩
      z_abs := PySem.W.mg_none_of X G z_abs
      z_bool := PySem.W.mg_none_of X G z_bool
      z_dict := PySem.W.mg_none_of X G z_dict
      z_divmod := PySem.W.mg_none_of X G z_divmod
      z_enumerate := PySem.W.mg_none_of X G z_enumerate
      z_int := PySem.W.mg_none_of X G z_int
      z_isinstance := PySem.W.mg_none_of X G z_isinstance
      z_len := PySem.W.mg_none_of X G z_len
      z_list := PySem.W.mg_none_of X G z_list
      z_max := PySem.W.mg_none_of X G z_max
      z_min := PySem.W.mg_none_of X G z_min
      z_range := PySem.W.mg_none_of X G z_range
      z_sorted := PySem.W.mg_none_of X G z_sorted
      z_str := PySem.W.mg_none_of X G z_str
      z_sum := PySem.W.mg_none_of X G z_sum
      z_tuple := PySem.W.mg_none_of X G z_tuple
      cv_Weather_MAX_CHANGE := ⟨_, ⟨cv_Weather_MAX_CHANGE, ⟨_, rfl⟩, gg_Weather_MAX_CHANGE, by decide +kernel⟩⟩
      cv_Weather_MAX_TICKS := ⟨_, ⟨cv_Weather_MAX_TICKS, ⟨_, rfl⟩, gg_Weather_MAX_TICKS, by decide +kernel⟩⟩ }
  have ER := erT_of (P := PySem.Challenge.rw_warmswitch_k10_whole_hidden_thresholds.prog) X G (h_er c) (c.fx 0 rfl) (by decide +kernel)
  have EX : ErX K (erA K) := erX_of (h_ex c)
  refine ⟨PySem.W.fnOf "law" "law" (defArgs s_law) (defBody s_law) (defScope s_law) .none kV_law dc_law pm_law an_law cd_law ct_law, [(cl_law, He.tabOf K cl_law)], spLawE K (He.tabOf K cl_law), (fun p hp => by
    simp only [List.mem_cons, List.not_mem_nil, or_false] at hp
    rcases hp with rfl
    · exact c.empty _ mem_law), (fun p hp => by
    simp only [List.mem_cons, List.not_mem_nil, or_false] at hp
    rcases hp with rfl
    · exact c.out _ mem_law), (fun p hp => by
    simp only [List.mem_cons, List.not_mem_nil, or_false] at hp
    rcases hp with rfl
    · exact PySem.W.codeHd_of_K X (c.hd _ mem_law)), fun s v => .of_eq rfl, fun H a ns hl _ hT hS => ⟨a, ns, rfl, hS, hl, ?_, fun _ => rfl⟩, fun base _ _ TB => ?_⟩
  · intro p hp
    unfold lamT at hp
    simp only [List.mem_cons, List.not_mem_nil, or_false] at hp
    rcases hp with rfl
    · exact LamX.TabS.nil (hT _ (List.mem_cons_self))
  · rw [ea]; exact ok_law T ER EX ecl_law (TB _ (List.mem_cons_self))
end W6

open PySem PySem.W PySem.Calls PyProof.Rows
set_option maxHeartbeats 0 in
theorem PySem.Challenge.cw_warmswitch_k10_whole_hidden_thresholds_holds : PySem.Challenge.rw_warmswitch_k10_whole_hidden_thresholds.Holds := by
  w_on; o_law
  refine HandSHeadRun.head_imp (r := OpenLaw.row PySem.Challenge.rw_warmswitch_k10_whole_hidden_thresholds) (q := W6.hV) (H := W6.hk) (ob := W6.hob) (M := 40000) (loose := W6.hn) (d := HandSHeadRun.topDef (OpenLaw.row PySem.Challenge.rw_warmswitch_k10_whole_hidden_thresholds).prog 53) (kwd := []) W6.hob_eq
    W6.hrun (by kernel_rfl) (by kernel_rfl) (by kernel_rfl) (by rfl) (by first | assumption | decide +kernel) (by decide +kernel) ⟨rfl, rfl, rfl, rfl, rfl, by decide +kernel⟩ ?hw ?hc
  case hw => w_witness2
  case hc =>
    refine Hq2.walk_tab (l := PySem.Challenge.rw_warmswitch_k10_whole_hidden_thresholds) (n := 63) (k := 13) (x := "_law_script") (CX := fun _ => L2.CX0) rfl (by decide) (by kernel_rfl) ⟨rfl, by decide, by decide⟩ ?F (fun _ _ _ _ _ z => z)
    intro w mg fa h Y G hmg0
    obtain ⟨K, KX, c⟩ := Y
    have hmg : mg ("law" : PySem.Str) = some (.ref fa) := by
      have e : (HandSHeadRun.topDef (OpenLaw.row PySem.Challenge.rw_warmswitch_k10_whole_hidden_thresholds).prog 53).name = ("law" : PySem.Str) := by kernel_rfl
      rw [← e]
      exact hmg0
    exact ⟨K, KX, W6.hfacts KX G hmg c⟩
#print axioms PySem.Challenge.cw_warmswitch_k10_whole_hidden_thresholds_holds

