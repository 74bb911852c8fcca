import PyProof.Rows.All
import Wide.All
import OpenK.AllK
import Wide.FinOn
import PySem.Challenge.RW_callbells_k65_whole_levels
import KE.KStateDown
import KE.GoesEnum
import HandS.ForExc
import HandS.ForMost
import HandS.Defaults
import HandS.More
import HandS.Star
import HandS.IsInst
import HandS.DictComp
import HandS.Property
import HandS.ClsMeth
import HandS.Walk
import HandS.Sort
import HandS.SortOrd
import HandS.SortRule
import HandS.Nested
import HandS.NestedK
import HandS.ExcInit
import KE.KSuper
import KE.KSuperObj
import KE.KExcSuper
import HandS.ExcSuper
import HandS.HeadNt
import HandS.HeadHook4
import HandS.SetFor
import HandS.Strs
import KE.KUnpackStar
import KE.DatumOrd
import HandS.StrMore
import HandS.Deep
import HandS.DeepEq
import HandS.Head0
import HandS.HeadHook1
import HandS.HeadHook2
import HandS.HeadHook3
import HandS.Codes
import HandS.Head1
import HandS.Head2
import HandS.HeadEnd
import HandS.Flow
import HandS.Conv
import HandS.TupAny
set_option Elab.async false
set_option linter.all false
set_option maxRecDepth 100000
set_option maxHeartbeats 0
/-! own rules: in and [] by an own class, enumerate over a tuple, an item for an augmented store -/
namespace Cb
open PySem PySem.Spec PyProof.Rows L2
section
variable {X : Cx} {CX : CXT} {k : Nat} {C f : Addr} {fd : FuncData} {ps : List Str} {sp : Sp} {E : XK}

/-- the promise of a method at an object, called by an operator -/
def rOwnB (C : Addr) (sp : Sp) (E : XK) (g : Bool → Bool) : R2 := fun x y H Q =>
  ∃ a dx fs, y = .ref a ∧ H a = some (.ins C dx fs) ∧ sp [.ref a, x] H (fun v H' => ∃ b, v = .bl b ∧ Q (.bl (g b)) H') E
def rOwnI (C : Addr) (sp : Sp) (E : XK) : R2 := fun x y H Q => ∃ a dx fs, x = .ref a ∧ H a = some (.ins C dx fs) ∧ sp [.ref a, y] H Q E

theorem op_inOwn (F : FnOk X.prog X.w X.K X.mg X.base CX k f fd ps sp) (hr : Room k X.A) (hb : Binds X.K fd ps []) (hx : Passes CX X E)
    (hs : PySem.W.findIn X.K (.ref C) "__contains__" = some (some (.ref f))) (hf : PySem.W.isFn X.K (.ref f) = true) : OpR X (compareOp .In) (rOwnB C sp E id) := by
  intro pins s σ H x y v u Q I rx ry h
  obtain ⟨a, dx, fs, rfl, ha, hq⟩ := h
  cases ry
  obtain ⟨_, J0, _⟩ := ins_get I.hok ha
  obtain ⟨_, J, _⟩ := J0.look
  obtain ⟨m, hF⟩ := I.fr
  refine PySem.W.in_K hF I.ok.mod.kin J hs hf ?_
  refine thn (run_fn (us := [.ref a, v]) (vs := [.ref a, x]) F hr hb (.nil : Vals [] []) hx I (.cons rfl (.cons rx .nil)) hq) fun w s1 z => ?_
  obtain ⟨r, H1, I1, rw1, b, rfl, q⟩ := z
  cases rw1
  exact wpAny_truthy_bool ⟨.bl b, H1, I1, rfl, q⟩
theorem op_ninOwn (F : FnOk X.prog X.w X.K X.mg X.base CX k f fd ps sp) (hr : Room k X.A) (hb : Binds X.K fd ps []) (hx : Passes CX X E)
    (hs : PySem.W.findIn X.K (.ref C) "__contains__" = some (some (.ref f))) (hf : PySem.W.isFn X.K (.ref f) = true) : OpR X (compareOp .NotIn) (rOwnB C sp E not) := by
  intro pins s σ H x y v u Q I rx ry h
  obtain ⟨a, dx, fs, rfl, ha, hq⟩ := h
  cases ry
  obtain ⟨_, J0, _⟩ := ins_get I.hok ha
  obtain ⟨_, J, _⟩ := J0.look
  obtain ⟨m, hF⟩ := I.fr
  refine PySem.W.notIn_K hF I.ok.mod.kin J hs hf ?_
  refine thn (run_fn (us := [.ref a, v]) (vs := [.ref a, x]) F hr hb (.nil : Vals [] []) hx I (.cons rfl (.cons rx .nil)) hq) fun w s1 z => ?_
  obtain ⟨r, H1, I1, rw1, b, rfl, q⟩ := z
  cases rw1
  exact wpAny_truthy_bool ⟨.bl (!b), H1, I1, rfl, q⟩
theorem get_own (F : FnOk X.prog X.w X.K X.mg X.base CX k f fd ps sp) (hr : Room k X.A) (hb : Binds X.K fd ps []) (hx : Passes CX X E) (hq0 : PySem.W.noSeq X.K C = true)
    (hs : PySem.W.findIn X.K (.ref C) "__getitem__" = some (some (.ref f))) (hf : PySem.W.isFn X.K (.ref f) = true) : PGet X (rOwnI C sp E) := by
  intro pins s σ H x y v u Q I rx ry h
  obtain ⟨a, dx, fs, rfl, ha, hq⟩ := h
  cases rx
  obtain ⟨_, J0, _⟩ := ins_get I.hok ha
  obtain ⟨_, J, _⟩ := J0.look
  obtain ⟨m, hF⟩ := I.fr
  refine PySem.W.getItem_K hF I.ok.mod.kin J hq0 hs hf ?_
  exact run_fn (us := [.ref a, u]) (vs := [.ref a, y]) F hr hb (.nil : Vals [] []) hx I (.cons rfl (.cons ry .nil)) hq

theorem pe_ixOwn {a b : Expr} {ta tb : TE} {pos : Pos} (F : FnOk X.prog X.w X.K X.mg X.base CX k f fd ps sp) (hr : Room (k + 1) X.A) (hb : Binds X.K fd ps []) (hx : Passes CX X E)
    (hs : PySem.W.findIn X.K (.ref C) "__getitem__" = some (some (.ref f))) (hf : PySem.W.isFn X.K (.ref f) = true) (hfn : PySem.W.fnIn X.K f = true) (ha : PE X a ta) (hi : PE X b tb)
    (hsl : ∀ o i, subscripted b true o i = runValue (.builtin "lifetime.subscript" ⟨[o, i], []⟩) := by intro _ _; rfl) : PE X (.Subscript a b pos) (tOp (rOwnI C sp E) ta tb) := by
  refine ⟨fun pins s0 σ H0 Q I0 h => ?_⟩
  refine Subscript_ (binT ha hi I0 h fun v u s x y H I rx ry hq1 => ?_)
  obtain ⟨a, dx, fs, rfl, hA, hq⟩ := hq1
  cases rx
  obtain ⟨_, J0, _⟩ := ins_get I.hok hA
  obtain ⟨_, J, _⟩ := J0.look
  obtain ⟨m, hF⟩ := I.fr
  refine PySem.W.sub_K hF I.ok.mod.kin J hs hfn hf ?_ (hsl _ _)
  have r2 : Vals [V.ref a, y] [Value.ref a, u] := .cons rfl (.cons ry .nil)
  have hl : ([Value.ref a, u] : List Value).length = ps.length := F.len _ _ _ _ hq
  have bt := hb s [Value.ref a, u] I.kIn (by simpa using hl)
  rw [List.append_nil] at bt
  refine wpAny_call (codeAny_mono (F.run X.A.in1 X.stack s H ⟨[.ref a, u], []⟩ _ _ Q E hr.in1 I.env0.in1 bt r2 hq) fun r s' z => ?_)
  cases r with
  | error e => exact hx pins σ H s e s' I z
  | ok fl => cases fl with
    | ret w => exact I.after z
    | _ => exact False.elim z
end
end Cb

namespace Cb
open PySem PySem.Spec PyProof.Rows L2
open Sem (wp)
/-! enumerate over a tuple -/
abbrev itO (t : Addr) : Obj := { cls := .type "tuple_iterator", data := .fields #[.ref t, .int 0 0] }
abbrev enO (i : Addr) : Obj := { cls := .type "enumerate", data := .fields #[.none, .bool false, .ref i, rawInt 0, .none, .none] }
theorem newT (t : Addr) (its : Array Value) :
    Meets (Builtin.«enumerate.__new__» ⟨[.type "enumerate", .ref t], []⟩) (fun _ R s => s.heap.IsTuple t its ∧ R (.ok (.ret (.ref (s.heap.push (itO t)).objs.size)))
        { s with heap := (s.heap.push (itO t)).push (enO s.heap.objs.size) }) := by
  refine .of_wp fun prog w A R s h => ?_
  obtain ⟨hp, g, d, tk, os⟩ := s
  obtain ⟨h1, h⟩ := h
  have sub0 := sub_enumerate
  have q1 : ∀ {A' : Around} {E : Value → Shared → Prop} {Q : Value → Shared → Prop}, Q (.ref hp.objs.size) ⟨hp.push (itO t), g, d, tk, os⟩ → wpAny (model prog w) A' (pyIter (.ref t)) Q E ⟨hp, g, d, tk, os⟩ :=
    fun q => (begins_tuple t its).iter prog w _ _ ⟨hp, g, d, tk, os⟩ _ h1 q
  wp_walk using q1
  refine wpAny_stack_any fun st => wpAny_pure ?_
  split
  · rename_i c _ _ _ _ _
    cases (c == Value.type "enumerate") <;> (wp_walk using q1; exact ⟨_, rfl, h⟩)
  · wp_walk using q1
    exact ⟨_, rfl, h⟩
section
variable {prog : Program} {w : World} {A : Around} {E : Value → Shared → Prop} {s : Shared}
theorem call_enumT {t : Addr} {its : Array Value} {Q : Value → Shared → Prop} (hL : s.heap.IsTuple t its)
    (h : ∀ h', IsEnum h' (s.heap.objs.size + 1) s.heap.objs.size 0 .none → h'.IsTupleIter s.heap.objs.size t 0 → h'.objs.size = s.heap.objs.size + 2 →
      (∀ b o, s.heap.get? b = some o → h'.get? b = some o) → Q (.ref (s.heap.objs.size + 1)) { s with heap := h' }) :
    wpAny (model prog w) A (call (.type "enumerate") [.ref t]) Q E s := by
  refine callType_new F.called_enumerate (by decide) (F.typeCall_enumerate_1 _) (F.newCall_enumerate_1 _) (fun obj => F.args_object_init_2 obj _) F.entry_enumerate_new (newT t its) ⟨hL, ?_⟩
  have hz : (s.heap.push (itO t)).objs.size = s.heap.objs.size + 1 := Heap.size_push ..
  show _ ∧ _
  rw [hz]
  have he : IsEnum ((s.heap.push (itO t)).push (enO s.heap.objs.size)) (s.heap.objs.size + 1) s.heap.objs.size 0 .none := by
    have z := Heap.get?_push_size (s.heap.push (itO t)) (o := enO s.heap.objs.size) rfl
    rw [hz] at z
    exact z
  exact ⟨⟨_, he, rfl⟩, h _ he ⟨_, Heap.get?_push_of_some _ (Heap.get?_push_size _ rfl), rfl, rfl⟩ (by rw [Heap.size_push, hz]) fun b o x => Heap.get?_push_of_some _ (Heap.get?_push_of_some _ x)⟩
end
/-- the tuple at a, each item in a new pair -/
def Iet (K : PySem.W.Frag) (a : Addr) : It :=
  ⟨fun i H => ∃ (xs : List V) (x : V), SqT K H a xs ∧ xs[i]? = some x,
   fun i H v H' => ∃ T x, v = .ref T ∧ H T = none ∧ H' = upd H T (.tup [.int (i : Nat), x]) ∧ ∀ xs, SqT K H a xs → xs[i]? = some x,
   fun i H => ∃ xs : List V, SqT K H a xs ∧ xs.length ≤ i⟩
theorem turn_enumT {P : Program} {w : World} {K : PySem.W.Frag} {elts : List Expr} {kk : Nat} {tpos : Pos} (a e it : Addr) :
    Turn P w K (.Tuple elts kk tpos) (Iet K a) [e, it] e (fun i h => (∃ old, IsEnum h e it ((i : Nat) : Int) old) ∧ h.IsTupleIter it a i ∧ e ≠ it) where
  mem := by simp
  obj := fun i h st b hb => by
    obtain ⟨⟨old, he⟩, ⟨o, ho, hc, hd⟩, _⟩ := st
    rcases List.mem_cons.mp hb with z | z
    · subst z
      exact ⟨_, he, fun v q => nomatch q⟩
    · rw [List.mem_singleton.mp z]
      exact ⟨o, ho, fun v q => by rw [hd] at q; cases q⟩
  keep := fun i h h' st k => by
    obtain ⟨⟨old, he⟩, hi, hne⟩ := st
    exact ⟨⟨old, k e (by simp) _ he⟩, hi.at fun o q => k it (by simp) o q, hne⟩
  item := by
    intro X hP hw hK hc i pins s σ H E I hf st hg
    subst hP hw hK
    obtain ⟨⟨old, he⟩, hit, hne⟩ := st
    obtain ⟨xs, x, hq, hx⟩ := hg
    obtain ⟨its, rv, p, hz⟩ := I.tuple hq
    have pT : s.heap.IsTuple a its.toArray := p
    obtain ⟨u, hu, ru⟩ := rv.get hx
    have hel : e < s.heap.objs.size := Heap.lt_size he
    have hil : it < s.heap.objs.size := by
      obtain ⟨_, q, _⟩ := hit
      exact Heap.lt_size q
    obtain ⟨ot, hot, hct, _⟩ := id pT
    have nea : e ≠ a := by
      rintro rfl
      rw [he] at hot
      have z := Option.some.inj hot
      rw [← z] at hct
      injection hct with z3
      exact absurd z3 (by decide)
    have nia : a ≠ it := by
      rintro rfl
      obtain ⟨o2, ho2, hc2, _⟩ := id hit
      rw [ho2] at hot
      have z := Option.some.inj hot
      rw [z, hct] at hc2
      injection hc2 with z3
      exact absurd z3 (by decide)
    have D := Draws.tuple (prog := X.prog) (w := X.w) (A := X.A.in1) (by exact I.ok.hd hc) it a nia its.toArray
    have hlt : i < its.toArray.size := by
      have z := (List.getElem?_eq_some_iff.mp hu).1
      simpa using z
    refine wpAny_pyNext_enum_itemD D he ⟨hit, pT⟩ hlt hne (by simp [hne, nea]) fun y h' tk hy ho hit' hT hsz hk => ?_
    have ey : y = u := by
      have z : its[i]? = some y := by simpa using hy
      exact Option.some.inj (z.symm.trans hu)
    subst ey
    refine ⟨_, rfl, wpAny_letOwnedTupleGo_enum (s := { s with heap := h', toks := tk + 1 }) ho fun h'' he' sb => ?_⟩
    have hT2 : h''.get? s.heap.objs.size = some { cls := .type "tuple", data := .seq #[.int i tk, y] } := (sb.2 _ (Nat.ne_of_gt hel)).trans hT
    have new : ObjOk X.prog X.w (upd H s.heap.objs.size (.tup [.int (i : Nat), x])) h'' s.heap.objs.size (.tup [.int (i : Nat), x]) :=
      ⟨by show 2 ≤ sizeLine; decide, [.int i tk, y], .cons ⟨_, rfl⟩ (.cons ru .nil), ⟨_, hT2, rfl, _, rfl⟩⟩
    have I1 : Inv X pins σ (upd H s.heap.objs.size (.tup [.int (i : Nat), x])) { s with heap := h'', toks := tk + 1 } := by
      refine I.turnedNew (ch := [e, it]) (fun b ob hb q => ?_) hf (Nat.le_refl _) new
      have b1 : b ≠ e := fun z => hb (by simp [z])
      have b2 : b ≠ it := fun z => hb (by simp [z])
      exact (sb.2 b b1).trans (hk b ob b1 b2 q)
    refine ⟨.ref s.heap.objs.size, _, I1, rfl, ⟨_, x, rfl, I.hok.fresh (Nat.le_refl _), rfl, fun ys hy => by rw [I.tuple_inj hy hq]; exact hx⟩, ⟨⟨y, ?_⟩, hit'.1.at fun o q => (sb.2 it (Ne.symm hne)).trans q, hne⟩, fun b hb => ?_⟩
    · rw [show ((i + 1 : Nat) : Int) = (i : Int) + 1 by omega]
      exact he'
    · have hb' : b < s.heap.objs.size := by
        rcases List.mem_cons.mp hb with z | z
        · rw [z]
          exact hel
        · rw [List.mem_singleton.mp z]
          exact hil
      rw [upd_ne (Nat.ne_of_lt hb')]
      exact (hf b hb).1
  done := by
    intro X hP hw hK hc i pins s σ H E I hf st hg
    subst hP hw hK
    obtain ⟨⟨old, he⟩, hit, hne⟩ := st
    obtain ⟨xs, hq, hx⟩ := hg
    obtain ⟨its, rv, p, hz⟩ := I.tuple hq
    have pT : s.heap.IsTuple a its.toArray := p
    obtain ⟨f0, f1, f2, f3, f4, f5⟩ := hf it (by simp)
    obtain ⟨ot, hot, hct, _⟩ := id pT
    have nia : a ≠ it := by
      rintro rfl
      obtain ⟨o2, ho2, hc2, _⟩ := id hit
      rw [ho2] at hot
      have z := Option.some.inj hot
      rw [z, hct] at hc2
      injection hc2 with z3
      exact absurd z3 (by decide)
    have hT : s.TypeIs (.ref e) "enumerate" := ⟨_, he, rfl⟩
    have hlen : its.toArray.size ≤ i := by
      have z := rv.length
      simp
      omega
    unfold pyNext
    refine wpAny_bind (wpAny_attempt (wpAny_callSpecial?_slot (name := Str.ofString "__next__") hT F.slot_enumerate_next (wpAny_call_entry F.slot_enumerate_next hT F.entry_enumerate_next ?_ (F.args_enumerate_next_1 _))))
    show wpAny _ _ (field (.ref e) 2 >>= _) _ _ _
    refine wpAny_bind (wpAny_field he rfl (x := .ref it) rfl ?_)
    refine wpAny_bind (wpAny_nextOf_tuple_end (A := X.A.in1) (by exact I.ok.hd hc) hit pT (by simpa using hlen) fun h' x he' hx' => ?_)
    obtain ⟨o, ho, hc'⟩ := hx'
    refine wpAny_bind (wpAny_isInstance (T := "StopIteration") (b := true) ⟨o, ho, hc'⟩ isSubtype_stop ?_)
    exact wpAny_pure ⟨rfl, I.turned (t' := s.toks) (fun b o hb q => he' b o hb q) f0 f1 f3 f4 f5⟩
  self := fun A i s Q E st h => let ⟨⟨_, he⟩, _⟩ := st; wpAny_pyIter_enum he h
def iEnumT (K : PySem.W.Frag) (ta : TA) : TI := fun σ H R => ta σ H fun vs H1 => ∃ a xs, vs = [.ref a] ∧ SqT K H1 a xs ∧ R (Iet K a) H1
theorem pi_enumT {X : Cx} {e : Expr} {ta : TA} {p pos tpos : Pos} {elts : List Expr} {kk : Nat} (hg : Gl X "enumerate") (hm : X.mg "enumerate" = none) (ha : PA X [e] ta)
    (hs : starEach [e] X.env = [(false, eval e X.env)] := by rfl) : PI X (.Tuple elts kk tpos) (.Call (.Name "enumerate" p) [e] [] pos) (iEnumT X.K ta) := by
  refine ⟨fun pins s σ H R I h => ?_⟩
  refine Call_ (ld_blt I hg hm boot_enumerate (PyProof.Rows.callWith_type1 (thn (ha.run pos pins s σ H _ I h) fun us s1 z => ?_) hs rfl))
  obtain ⟨vs, H1, I1, r1, a, xs, ex, hq, q⟩ := z
  subst ex
  cases r1 with
  | cons r rr =>
    cases rr
    cases r
    obtain ⟨its, rv, p', hz⟩ := I1.tuple hq
    have pT : s1.heap.IsTuple a its.toArray := p'
    refine call_enumT pT fun h' he hit hsz hk => wpAny_pyIter_enum he ?_
    have I2 : Inv X pins σ H1 { s1 with heap := h' } := I1.kept (t' := s1.toks) hk
    refine ⟨s1.heap.objs.size + 1, [s1.heap.objs.size + 1, s1.heap.objs.size], _, _, H1, rfl, I2, turn_enumT a (s1.heap.objs.size + 1) s1.heap.objs.size, ⟨⟨.none, he⟩, hit, Nat.succ_ne_self _⟩, fun b hb => ?_, q⟩
    have hle : s1.heap.objs.size ≤ b := by
      rcases List.mem_cons.mp hb with y | y
      · exact y ▸ Nat.le_succ _
      · exact Nat.le_of_eq (List.mem_singleton.mp y).symm
    exact I1.fpOk hle (I1.hok.fresh hle)
theorem walk_enumT {K : PySem.W.Frag} {a : Addr} {xs : List V} : Walk (Iet K a) xs.length (fun H => SqT K H a xs) (YPair (fun i => some (.int (i : Nat))) (fun i => xs[i]?)) := by
  refine ⟨fun i _ hi q => ⟨xs, xs[i], q, by simp [hi]⟩, fun _ q => ⟨xs, q, Nat.le_refl _⟩, fun i H v H' _ q y => ?_⟩
  obtain ⟨T, x, y1, y2, y3, y4⟩ := y
  exact ⟨T, _, x, y1, y2, y3, rfl, y4 xs q⟩
/-- a dict comprehension over a walk -/
theorem dc_it {J : It} {n : Nat} {G : Hp → Prop} {Y : Nat → Hp → V → Hp → Prop} (w : Walk J n G Y) {g : TG} {tt : TT} {tk tv : TE} {vs : List Nat} {σ : L2.St} {H1 : Hp} {D : Addr} {Qd : Hp → Prop}
    (Pv : Nat → Hp → Prop) (h0 : Pv 0 (upd H1 D (.dK []))) (hG : ∀ i H, i ≤ n → Pv i H → G H)
    (hs : ∀ i x H H', i < n → Pv i H → Y i H x H' → g x (wipe σ vs) H' fun σ2 H2 => wipe σ2 vs = wipe σ vs ∧ tt σ2 H2 fun b H3 =>
      if b = true then tk σ2 H3 fun y H4 => tv σ2 H4 fun z H5 => ∃ kvs k, y = kV k ∧ H5 D = some (.dK kvs) ∧ kvs.length < sizeLine ∧ Pv (i + 1) (upd H5 D (.dK (putK kvs k z))) else Pv (i + 1) H3)
    (hd : ∀ H, Pv n H → Qd H) :
    ∃ W : Nat → Nat → Hp → Prop, (∃ m, W 0 m (upd H1 D (.dK []))) ∧ ∀ i m H, W i m H →
      (J.stop i H ∧ Qd H) ∨ (J.go i H ∧ ∃ Nx : Hp → Prop, (∀ H', Nx H' → ∃ m', m' < m ∧ W (i + 1) m' H') ∧ ∀ x H', J.yld i H x H' → g x (wipe σ vs) H' fun σ2 H2 => wipe σ2 vs = wipe σ vs ∧ tt σ2 H2 fun b H3 =>
        if b = true then tk σ2 H3 fun y H4 => tv σ2 H4 fun z H5 => ∃ kvs k, y = kV k ∧ H5 D = some (.dK kvs) ∧ kvs.length < sizeLine ∧ Nx (upd H5 D (.dK (putK kvs k z))) else Nx H3) := by
  refine ⟨fun i m H => m = n - i ∧ i ≤ n ∧ Pv i H, ⟨n, by simp, Nat.zero_le _, h0⟩, ?_⟩
  rintro i m H ⟨rfl, hi, p⟩
  have q := hG i H hi p
  rcases Nat.lt_or_ge i n with hlt | hge
  · exact .inr ⟨w.goes i H hlt q, Pv (i + 1), fun H' p' => ⟨n - (i + 1), by omega, rfl, hlt, p'⟩, fun x H' y => hs i x H H' hlt p (w.yields i H x H' hlt q y)⟩
  · obtain rfl : i = n := by omega
    exact .inl ⟨w.stops H q, hd H p⟩
/-- an item, for an augmented store -/
theorem get_list {X : Cx} : PGet X (fun x y H Q => ∃ p xs j v, x = .ref p ∧ y = .int (j : Nat) ∧ SqL X.K H p xs ∧ xs[j]? = some v ∧ Q v H) := by
  intro pins s σ H x y v u Q I rx ry h
  obtain ⟨p, xs, j, z, rfl, rfl, hq, he, q⟩ := h
  cases rx
  obtain ⟨t, rfl⟩ := ry
  obtain ⟨its, r, pl, hz⟩ := I.list hq
  obtain ⟨w, ew, rw'⟩ := r.get he
  have hj : j < its.length := (List.getElem?_eq_some_iff.mp ew).1
  have h63 := line63
  have hl := r.length
  exact wpAny_getItem_list pl.isList (by omega) (by omega) (by simpa using ew) ⟨z, H, I, rw', q⟩
end Cb

/-! sorted of pairs of an int and a text -/
namespace Cb
open PySem PySem.Spec PyProof.Rows L2
def strLt (x y : Str) : Bool := decide (x.cps.toList < y.cps.toList)
def lexIS (p q : Int × Str) : Bool := if p.1 = q.1 then strLt p.2 q.2 else decide (p.1 < q.1)
theorem strLt_asym {x y : Str} (h : strLt x y = true) : strLt y x = false := by
  have a : x.cps.toList < y.cps.toList := of_decide_eq_true h
  exact decide_eq_false (List.lt_asymm a)
theorem strLt_tr {x y z : Str} (h1 : strLt y x = false) (h2 : strLt z y = false) : strLt z x = false := by
  have a : ¬ y.cps.toList < x.cps.toList := of_decide_eq_false h1
  have b : ¬ z.cps.toList < y.cps.toList := of_decide_eq_false h2
  exact decide_eq_false (List.not_lt.mpr (List.le_trans (List.not_lt.mp a) (List.not_lt.mp b)))
theorem lexIS_swo {α : Type} (k : α → Int × Str) : SrtO.Swo fun v u => lexIS (k v) (k u) := by
  refine ⟨fun x y h => ?_, fun x y z h1 h2 => ?_⟩
  · unfold lexIS at h ⊢
    by_cases e : (k x).1 = (k y).1
    · rw [if_pos e] at h
      rw [if_pos e.symm]
      exact strLt_asym h
    · rw [if_neg e, decide_eq_true_eq] at h
      rw [if_neg (Ne.symm e), decide_eq_false_iff_not]
      omega
  · unfold lexIS at h1 h2 ⊢
    by_cases e1 : (k y).1 = (k x).1
    · rw [if_pos e1] at h1
      by_cases e2 : (k z).1 = (k y).1
      · rw [if_pos e2] at h2
        rw [if_pos (e2.trans e1)]
        exact strLt_tr h1 h2
      · rw [if_neg e2, decide_eq_false_iff_not] at h2
        rw [if_neg (by omega), decide_eq_false_iff_not]
        omega
    · rw [if_neg e1, decide_eq_false_iff_not] at h1
      by_cases e2 : (k z).1 = (k y).1
      · rw [if_neg (by omega), decide_eq_false_iff_not]
        omega
      · rw [if_neg e2, decide_eq_false_iff_not] at h2
        rw [if_neg (by omega), decide_eq_false_iff_not]
        omega
def IsIS (h : Heap) (v : Value) (x : Int) (y : Str) : Prop := ∃ a o t u n, v = .ref a ∧ h.get? a = some o ∧ o.cls = .type "tuple" ∧ o.data = .seq #[.int x t, .str y u] n
theorem IsIS.keeps {h h' : Heap} {v : Value} {x : Int} {y : Str} (p : IsIS h v x y) (k : ∀ b o, h.get? b = some o → o.cls = .type "tuple" → h'.get? b = some o) : IsIS h' v x y := by
  obtain ⟨a, o, t, u, n, e, ho, hc, hd⟩ := p
  exact ⟨a, o, t, u, n, e, k _ _ ho hc, hc, hd⟩
section
variable {prog : Program} {w : World} {A : Around} {E : Value → Shared → Prop} {s : Shared}
theorem cmp_IS {vs : List Value} {k : Value → Int × Str} (hp : ∀ v ∈ vs, IsIS s.heap v (k v).1 (k v).2) : SrtO.Cmp prog w A s (tuples' true) (fun p => p.1 ∈ vs) (SrtO.lt2 fun v u => lexIS (k v) (k u)) := by
  intro p q hm hm'
  have g1 := hp _ hm
  have g2 := hp _ hm'
  show wpAny (model prog w) A (keyLt' (tuples' true) p.1 q.1) (fun r s' => s' = s ∧ r = lexIS (k p.1) (k q.1)) (fun _ _ => False) s
  generalize k p.1 = kp at g1 ⊢
  generalize k q.1 = kq at g2 ⊢
  obtain ⟨x, y⟩ := kp
  obtain ⟨x', y'⟩ := kq
  obtain ⟨a, o, t, u, n, e, ho, hc, hd⟩ := g1
  obtain ⟨a', o', t', u', n', e', ho', hc', hd'⟩ := g2
  rw [e, e']
  refine PySem.W.kat_lt ho hd ho' hd' ?_
  show PySem.W.KatLex prog w A true (decide (2 < 2)) _ [(.int x t, .int x' t'), (.str y u, .str y' u')] 0 s
  refine PySem.W.kat_cons (SeqAt.EqAt.int_int x t x' t' prog w _ _ ?_)
  refine PySem.W.kat_go (fun e1 => ?_) (fun e1 => ?_)
  · obtain rfl : x = x' := by simpa using e1
    refine PySem.W.kat_yes (PySem.W.kat_cons (wpAny_eqBool_str ?_))
    refine PySem.W.kat_go (fun e2 => ?_) (fun e2 => ?_)
    · obtain rfl : y = y' := of_decide_eq_true e2
      refine PySem.W.kat_yes (PySem.W.kat_nil ⟨rfl, ?_⟩)
      unfold lexIS strLt
      rw [if_pos rfl]
      exact (decide_eq_false (List.lt_irrefl _)).symm
    · refine PySem.W.kat_no (PySem.W.kat_one _ _ (PyProof.Rows.lt_str ?_))
      refine (show s = s ∧ decide (y.cps.toList < y'.cps.toList) = _ from ⟨rfl, ?_⟩)
      unfold lexIS strLt
      exact (if_pos rfl).symm
  · have ex : ¬ x = x' := by simpa using e1
    refine PySem.W.kat_no (oneLt_int ⟨rfl, ?_⟩)
    unfold lexIS
    exact (if_neg ex).symm
theorem firsts_IS {h : Heap} : ∀ {vs : List Value}, (∀ v ∈ vs, ∃ x y, IsIS h v x y) → ∃ fs, PySem.W.KatTups h vs fs ∧ fs.length = vs.length ∧ ∀ f ∈ fs, ∃ x t, f = Value.int x t
  | [], _ => ⟨[], .nil, rfl, fun _ z => nomatch z⟩
  | v :: vs, hv => by
    obtain ⟨x, y, a, o, t, u, n, rfl, ho, hc, hd⟩ := hv v List.mem_cons_self
    obtain ⟨fs, f1, f2, f3⟩ := firsts_IS (vs := vs) fun z hz => hv z (List.mem_cons_of_mem _ hz)
    refine ⟨.int x t :: fs, .cons ho hc hd rfl f1, by simp [f2], fun f hf => ?_⟩
    rcases List.mem_cons.mp hf with z | z
    · exact ⟨x, t, z⟩
    · exact f3 f z
theorem sortable_IS {a : Addr} {vs : List Value} {k : Value → Int × Str} (h0 : 0 < vs.length) (hp : ∀ v ∈ vs, IsIS s.heap v (k v).1 (k v).2) (ha : ∀ o, s.heap.get? a = some o → o.cls ≠ .type "tuple") :
    SrtO.SortableO prog w A s a vs fun v u => lexIS (k v) (k u) := by
  intro h' keep
  have hp' : ∀ v ∈ vs, IsIS h' v (k v).1 (k v).2 := fun v hm => (hp v hm).keeps fun b o e c => keep b o (fun z => ha o (z ▸ e) c) e
  obtain ⟨fs, f1, f2, f3⟩ := firsts_IS fun v hm => ⟨_, _, hp' v hm⟩
  refine ⟨tuples' true, fun Q E hq => ?_, cmp_IS hp'⟩
  refine PySem.W.kat_kind (T := .type "int") f1 (by omega) (fun f hm => ?_) (by rfl) ?_
  · obtain ⟨x, t, rfl⟩ := f3 f hm
    exact PySem.W.Looks.now
  · rw [show (Value.type "int" != Value.type "tuple") = true by first | decide +kernel | rfl]
    exact hq
theorem sorted_IS {l : Addr} {vs : List Value} {k : Value → Int × Str} {Q : Value → Shared → Prop} (hl : s.heap.IsList l vs.toArray) (hz : vs.length ≤ sizeLine) (hp : ∀ v ∈ vs, IsIS s.heap v (k v).1 (k v).2)
    (h : ∀ (h' : Heap) (d : Addr) (out : List Value), SrtO.Srtd (fun v u => lexIS (k v) (k u)) out → SrtO.Stb (fun v u => lexIS (k v) (k u)) out vs → (∀ b o, s.heap.get? b = some o → h'.get? b = some o) → s.heap.objs.size ≤ d →
      (∃ n, h'.get? d = some (seqObj "list" out.toArray n)) → Q (.ref d) { s with heap := h' }) : wpAny (model prog w) A (call (.builtin "sorted") [.ref l]) Q E s := by
  refine SrtO.sorted_ord (lexIS_swo k) hl hz (fun h2 h₁ a ha kk => ?_) fun out hs hb => h _ _ out hs hb (fun b o e => sortedAll_old e) (Nat.le_succ _) (sortedAll_at s.heap vs out.toArray)
  refine sortable_IS (s := { s with heap := h₁ }) (by omega) (fun v hm => (hp v hm).keeps fun b o e _ => (kk b o e).2) fun o e => ?_
  cases (show some o = some (seqObj "list" vs.toArray 0) from e.symm.trans ha)
  intro c
  exact absurd (Value.type.inj c) (by decide)
end
/-- sorted(xs), xs a list of pairs of an int and a text -/
def rSortIS (K : PySem.W.Frag) : List V → Hp → VK → Prop := fun vs H Q => ∃ (a : Addr) (xs : List V) (k : V → Int × Str), vs = [V.ref a] ∧ SqL K H a xs ∧ (∀ x ∈ xs, ∃ t, x = V.ref t ∧ H t = some (.tup [.int (k x).1, .str (k x).2])) ∧
  ∀ ys p, SrtO.Srtd (fun v u => lexIS (k v) (k u)) ys → SrtO.Stb (fun v u => lexIS (k v) (k u)) ys xs → H p = none → Q (.ref p) (upd H p (.lst ys))
theorem cr_sortIS {X : Cx} : CallR X (.builtin "sorted") (rSortIS X.K) := by
  intro pins s σ H vs us Q I r h
  obtain ⟨a, xs, k, rfl, hs, hx, q⟩ := h
  obtain ⟨its, rv, hl, hz⟩ := I.list hs
  obtain ⟨u, rfl, ru⟩ := vals1 r
  obtain rfl : u = Value.ref a := ru
  obtain ⟨e1, e2⟩ := refs_back rv fun x m => by
    obtain ⟨t, e, _⟩ := hx x m
    exact ⟨t, e⟩
  have hzz : its.length ≤ sizeLine := by
    rw [← rv.length]
    exact hz
  refine sorted_IS (k := fun u => k (backV u)) hl.isList hzz (fun v hv => ?_) fun h' d out o1 o2 kp hd hn => ?_
  · obtain ⟨t, rfl⟩ := e2 v hv
    have hm : V.ref t ∈ xs := by
      rw [e1]
      exact List.mem_map.mpr ⟨_, hv, rfl⟩
    obtain ⟨t', e, ht⟩ := hx _ hm
    cases e
    obtain ⟨_, its2, r2, o, ho, hc, n, hd⟩ := I.hok _ _ ht
    obtain ⟨u1, u2, rfl, ri, rj⟩ := vals2 r2
    obtain ⟨t1, rfl⟩ := ri
    obtain ⟨t2, rfl⟩ := rj
    exact ⟨t, o, t1, t2, n, rfl, ho, hc, hd⟩
  · have h3 : ∀ u ∈ out, ∃ a, u = Value.ref a := fun u hu => e2 u (o2.perm.mem_iff.mp hu)
    obtain ⟨n, hn⟩ := hn
    have hb : SrtO.Stb (fun v u => lexIS (k v) (k u)) (out.map backV) xs := by
      rw [e1]
      exact SrtO.Stb.map (lexIS_swo k) backV o2
    have hlen : (out.map backV).length ≤ sizeLine := by
      rw [hb.len]
      exact hz
    exact ⟨.ref d, upd H d (.lst (out.map backV)), I.laid (t' := s.toks) kp hd ⟨hlen, out, n, vals_back h3, hn⟩, rfl, q _ d (SrtO.srtd_map o1) hb (I.hok.fresh hd)⟩
end Cb

namespace Cb
open PySem PySem.Spec PyProof.Rows L2
section
variable {prog : Program} {w : World} {A : Around} {E : Value → Shared → Prop} {s : Shared}
theorem sumT_raw {t : Addr} {its : List Value} {ns : List Int} {Q : Value → Shared → Prop} (hh : A.handled = none) (hl : s.heap.IsTuple t its.toArray) (hi : ∀ (i : Nat) v, its[i]? = some v → ∃ tk, v = Value.int (ns.getD i 0) tk) (hn : its.length = ns.length)
    (h : ∀ h' tk t', (∀ b o, s.heap.get? b = some o → h'.get? b = some o) → Q (.int ns.sum t') { s with heap := h', toks := tk }) : wpAny (model prog w) A (call (.builtin "sum") [.ref t]) Q E s := by
  have ht : t < s.heap.objs.size := by
    obtain ⟨o, ho, _⟩ := hl
    exact Heap.lt_size ho
  refine call_sum_walkG (wpAny_pyIter_tuple hl ⟨s.heap.objs.size, _, _, _, _, _, fun i => ns.getD i 0, rfl, Walks.tuple (by simpa using hh) _ t (Nat.ne_of_lt ht) its.toArray, ⟨?_, ?_⟩, ?_, ?_, ?_⟩)
  · exact ⟨_, Heap.get?_push_size _ rfl, rfl, rfl⟩
  · exact hl.at fun o q => Heap.get?_push_of_some _ q
  · intro b hb
    show b < (s.heap.push _).objs.size
    rw [Heap.size_push]
    rcases List.mem_cons.mp hb with z | z
    · rw [z]
      exact Nat.lt_succ_self _
    · rw [List.mem_singleton.mp z]
      exact Nat.lt_succ_of_lt ht
  · intro i v e
    exact hi i v (by simpa using e)
  · intro h' tk t' k
    have e : preSum (fun i => ns.getD i 0) its.toArray.size = ns.sum := by
      rw [preSum_getD]
      simp [hn]
    rw [e]
    refine h h' tk t' fun b o hb => k b o ?_ ?_
    · exact fun z => Nat.ne_of_lt (Heap.lt_size hb) (List.mem_singleton.mp z)
    · exact Heap.get?_push_of_some _ hb
end
def rSumT (K : PySem.W.Frag) : List V → Hp → VK → Prop := fun vs H Q => ∃ (a : Addr) (ns : List Int), vs = [V.ref a] ∧ SqT K H a (ns.map V.int) ∧ Q (.int ns.sum) H
theorem cr_sumT {X : Cx} (hc : X.calm = true) : CallR X (.builtin "sum") (rSumT X.K) := by
  intro pins s σ H vs us Q I r h
  obtain ⟨a, ns, rfl, hs, q⟩ := h
  obtain ⟨its, rv, p, hz⟩ := I.tuple hs
  obtain ⟨u, rfl, ru⟩ := vals1 r
  obtain rfl : u = Value.ref a := ru
  have hlen : its.length = ns.length := by
    have := rv.length
    simpa using this.symm
  refine sumT_raw (I.ok.hd hc) p (fun i v hv => ?_) hlen fun h' tk t' k => ⟨.int ns.sum, H, I.kept k, ⟨t', rfl⟩, q⟩
  have hi : i < ns.length := by
    rw [← hlen]
    exact (List.getElem?_eq_some_iff.mp hv).1
  have hx : (ns.map V.int)[i]? = some (.int (ns.getD i 0)) := by simp [hi]
  obtain ⟨u, hu, tk, ru⟩ := rv.get hx
  exact ⟨tk, (Option.some.inj (hv.symm.trans hu)).trans ru⟩
end Cb

/-! own heaps: what is owned, what stays -/
namespace Cb
open PySem PySem.Spec PyProof.Rows L2
theorem same_new {H H1 : Hp} {p : Addr} {o : HO} (e : Same H H1) (h : H1 p = none) : Same H (upd H1 p o) := fun b u q => by
  have z := e b u q
  rw [upd_ne (ne_of_none z h)]
  exact z
theorem same_mut {H H1 : Hp} {p : Addr} {o : HO} (e : Same H H1) (h : H p = none) : Same H (upd H1 p o) := fun b u q => by
  rw [upd_ne (ne_of_none q h)]
  exact e b u q
theorem Same.rd {H H' : Hp} {a : Addr} {u : HO} (e : Same H H') (h : Rd H a u) : Rd H' a u := h.elim (fun h => .inl (e _ _ h)) fun ⟨o, h⟩ => .inr ⟨o, e _ _ h⟩
theorem Same.tup {K : PySem.W.Frag} {H H' : Hp} {a : Addr} {xs : List V} (e : Same H H') (h : SqT K H a xs) : SqT K H' a xs := h.elim (fun h => .inl (Same.rd e h)) .inr
theorem t_of {K : PySem.W.Frag} {H : Hp} {a : Addr} {xs : List V} (h : H a = some (.tup xs)) : SqT K H a xs := .inl (.inl h)
theorem l_of {K : PySem.W.Frag} {H : Hp} {a : Addr} {xs : List V} (h : H a = some (.lst xs)) : SqL K H a xs := .inl (.inl h)
theorem sqt_inj {K : PySem.W.Frag} {H : Hp} {a : Addr} {xs ys : List V} (h : H a = some (.tup xs)) (h' : H a = some (.tup ys)) : xs = ys := by
  rw [h] at h'
  injection h' with e
  injection e

/-! ### isinstance by type names -/
def rIs (K : PySem.W.Frag) : List V → Hp → VK → Prop := fun xs H Q => ∃ (x : V) (b a : String) (r : Bool), xs = [x, .ty b] ∧ TyX K H x (.type a) ∧ kitB a b = some r ∧ Q (.bl r) H
theorem call_is {X : Cx} : CallR X (.builtin "isinstance") (rIs X.K) := by
  intro pins s σ H xs us Q I r h
  obtain ⟨x, b, a, z, rfl, ty, e, q⟩ := h
  exact call_isi pins s σ H _ us Q I r ⟨x, .ty b, .type a, .type b, z, rfl, .ty b, ty, kit_ty e, q⟩
section
variable {K : PySem.W.Frag} {H : Hp}
theorem ty_int {i : Int} : TyX K H (.int i) (.type "int") := .base (.int i)
theorem ty_str {x : Str} : TyX K H (.str x) (.type "str") := .base (.str x)
theorem ty_tup {a : Addr} {xs : List V} (h : SqT K H a xs) : TyX K H (.ref a) (.type "tuple") := by
  rcases h with (h | ⟨o, h⟩) | ⟨o, _, _, e, c, _⟩
  · exact .base (.tup h)
  · exact .fTuple h
  · exact .kTuple e c
theorem kb1 : kitB "int" "int" = some true := by decide +kernel
theorem kb2 : kitB "int" "bool" = some false := by decide +kernel
theorem kb3 : kitB "str" "str" = some true := by decide +kernel
theorem kb4 : kitB "tuple" "tuple" = some true := by decide +kernel
theorem kb5 : kitB "str" "int" = some false := by decide +kernel
end

/-! ### owned cells over what stays -/
def Cells (H : Hp) : List (Addr × HO) → Prop
  | [] => True
  | e :: r => H e.1 = some e.2 ∧ Cells H r
def adrs (L : List (Addr × HO)) : List Addr := L.map (·.1)
/-- K0: what stays as it is; L: what is owned, and may change -/
structure Sep (K0 H : Hp) (L : List (Addr × HO)) : Prop where
  ext : Same K0 H
  nd : (adrs L).Nodup
  fr : ∀ a ∈ adrs L, K0 a = none
  cs : Cells H L
theorem Cells.mem {H : Hp} : ∀ {L : List (Addr × HO)}, Cells H L → ∀ e ∈ L, H e.1 = some e.2
  | _ :: _, c, e, m => by
    rcases List.mem_cons.mp m with z | z
    · exact z ▸ c.1
    · exact Cells.mem c.2 e z
theorem Cells.of {H : Hp} : ∀ {L : List (Addr × HO)}, (∀ e ∈ L, H e.1 = some e.2) → Cells H L
  | [], _ => True.intro
  | e :: _, h => ⟨h e List.mem_cons_self, Cells.of fun x m => h x (List.mem_cons_of_mem _ m)⟩
theorem Sep.nil {H : Hp} : Sep H H [] := ⟨Same.refl H, List.nodup_nil, (fun _ m => nomatch m), True.intro⟩
theorem Sep.at_ {K0 H : Hp} {L : List (Addr × HO)} (s : Sep K0 H L) {a : Addr} {o : HO} (m : (a, o) ∈ L) : H a = some o := s.cs.mem _ m
/-- a store at an owned cell -/
theorem Sep.put {K0 H : Hp} {L1 L2 : List (Addr × HO)} {a : Addr} {o o' : HO} (s : Sep K0 H (L1 ++ (a, o) :: L2)) : Sep K0 (upd H a o') (L1 ++ (a, o') :: L2) := by
  have ea : adrs (L1 ++ (a, o') :: L2) = adrs (L1 ++ (a, o) :: L2) := by simp [adrs]
  have ha : K0 a = none := s.fr a (by simp [adrs])
  refine ⟨same_mut s.ext ha, ea ▸ s.nd, ea ▸ s.fr, Cells.of fun e m => ?_⟩
  have nd : (adrs (L1 ++ (a, o) :: L2)).Nodup := s.nd
  simp only [adrs, List.map_append, List.map_cons, List.nodup_append, List.nodup_cons] at nd
  rcases List.mem_append.mp m with z | z
  · have ne : e.1 ≠ a := nd.2.2 e.1 (List.mem_map_of_mem z) a List.mem_cons_self
    rw [upd_ne ne]
    exact s.cs.mem e (List.mem_append_left _ z)
  · rcases List.mem_cons.mp z with z | z
    · subst z
      exact upd_same
    · have ne : e.1 ≠ a := fun q => nd.2.1.1 (q ▸ List.mem_map_of_mem z)
      rw [upd_ne ne]
      exact s.cs.mem e (List.mem_append_right _ (List.mem_cons_of_mem _ z))
theorem Sep.free {K0 H : Hp} {L : List (Addr × HO)} (s : Sep K0 H L) {p : Addr} (h : H p = none) : K0 p = none ∧ p ∉ adrs L := by
  refine ⟨Same.free s.ext h, fun m => ?_⟩
  obtain ⟨e, me, rfl⟩ := List.mem_map.mp m
  rw [s.cs.mem e me] at h
  cases h
theorem Sep.cells_new {K0 H : Hp} {L : List (Addr × HO)} (s : Sep K0 H L) {p : Addr} {o : HO} (h : H p = none) : Cells (upd H p o) L := by
  refine Cells.of fun e m => ?_
  rw [upd_ne (ne_of_none (s.cs.mem e m) h)]
  exact s.cs.mem e m
/-- a new thing that nobody asks for -/
theorem Sep.drop {K0 H : Hp} {L : List (Addr × HO)} (s : Sep K0 H L) {p : Addr} {o : HO} (h : H p = none) : Sep K0 (upd H p o) L := ⟨same_new s.ext h, s.nd, s.fr, s.cells_new h⟩
/-- .. that stays as it is -/
theorem Sep.keep {K0 H : Hp} {L : List (Addr × HO)} (s : Sep K0 H L) {p : Addr} {o : HO} (h : H p = none) : Sep (upd K0 p o) (upd H p o) L := by
  obtain ⟨h0, hm⟩ := s.free h
  refine ⟨fun b u q => ?_, s.nd, fun a ma => ?_, s.cells_new h⟩
  · by_cases e : b = p
    · subst e
      rw [upd_same] at q ⊢
      exact q
    · rw [upd_ne e] at q ⊢
      exact s.ext b u q
  · have ne : a ≠ p := fun q => hm (q ▸ ma)
    rw [upd_ne ne]
    exact s.fr a ma
/-- .. that is owned -/
theorem Sep.own {K0 H : Hp} {L : List (Addr × HO)} (s : Sep K0 H L) {p : Addr} {o : HO} (h : H p = none) : Sep K0 (upd H p o) ((p, o) :: L) := by
  obtain ⟨h0, hm⟩ := s.free h
  refine ⟨same_new s.ext h, List.nodup_cons.mpr ⟨hm, s.nd⟩, fun a ma => ?_, upd_same, s.cells_new h⟩
  rcases List.mem_cons.mp ma with z | z
  · exact z ▸ h0
  · exact s.fr a z
theorem Sep.perm {K0 H : Hp} {L M : List (Addr × HO)} (s : Sep K0 H L) (p : M.Perm L) : Sep K0 H M :=
  ⟨s.ext, (List.Perm.nodup_iff (p.map (Prod.fst : Addr × HO → Addr))).mpr s.nd, fun a m => s.fr a ((p.map (Prod.fst : Addr × HO → Addr)).mem_iff.mp m), Cells.of fun e m => s.cs.mem e (p.mem_iff.mp m)⟩
theorem Sep.weak {K0 H : Hp} {L M : List (Addr × HO)} (s : Sep K0 H (L ++ M)) : Sep K0 H L :=
  ⟨s.ext, (List.nodup_append.mp (by have z := s.nd; unfold adrs at z; rw [List.map_append] at z; exact z)).1, fun a m => s.fr a (by unfold adrs at m ⊢; rw [List.map_append]; exact List.mem_append_left _ m), Cells.of fun e m => s.cs.mem e (List.mem_append_left _ m)⟩
/-- all but the owned -/
noncomputable def less (H : Hp) (L : List (Addr × HO)) : Hp := fun a => if a ∈ adrs L then none else H a
theorem less_in {H : Hp} {L : List (Addr × HO)} {a : Addr} (m : a ∈ adrs L) : less H L a = none := if_pos m
theorem less_out {H : Hp} {L : List (Addr × HO)} {a : Addr} (m : a ∉ adrs L) : less H L a = H a := if_neg m
theorem Sep.rebase {K0 H : Hp} {L : List (Addr × HO)} (s : Sep K0 H L) : Sep (less H L) H L ∧ Same K0 (less H L) := by
  refine ⟨⟨fun b o q => ?_, s.nd, fun a m => less_in m, s.cs⟩, fun b o q => ?_⟩
  · by_cases m : b ∈ adrs L
    · rw [less_in m] at q
      cases q
    · rwa [less_out m] at q
  · rw [less_out fun m => by rw [s.fr b m] at q; cases q]
    exact s.ext b o q
/-- a part of what is owned, handed to a callee; what it hands back -/
theorem Sep.part {K0 H : Hp} {L M : List (Addr × HO)} (s : Sep K0 H (L ++ M)) : Sep (less H L) H L ∧ Same K0 (less H L) := s.weak.rebase
theorem Sep.back {K0 H H' K1 : Hp} {L M L2 : List (Addr × HO)} (s : Sep K0 H (L ++ M)) (g : Same (less H L) K1) (t : Sep K1 H' L2) : Sep K0 H' (L2 ++ M) := by
  have nd : (adrs L ++ adrs M).Nodup := by
    have z := s.nd
    unfold adrs at z ⊢
    rw [List.map_append] at z
    exact z
  obtain ⟨n1, n2, n3⟩ := List.nodup_append.mp nd
  have keepM : ∀ e ∈ M, K1 e.1 = some e.2 := fun e m => by
    refine g _ _ ?_
    rw [less_out fun q => n3 _ q _ (List.mem_map_of_mem m) rfl]
    exact s.cs.mem e (List.mem_append_right _ m)
  have ext : Same K0 K1 := fun b o q => g b o (s.part.2 b o q)
  refine ⟨fun b o q => t.ext b o (ext b o q), ?_, fun a m => ?_, Cells.of fun e m => ?_⟩
  · unfold adrs
    rw [List.map_append]
    refine List.nodup_append.mpr ⟨t.nd, n2, fun a ma b mb q => ?_⟩
    subst q
    obtain ⟨e, me, rfl⟩ := List.mem_map.mp mb
    have z := t.fr _ ma
    rw [keepM e me] at z
    cases z
  · unfold adrs at m
    rw [List.map_append] at m
    rcases List.mem_append.mp m with z | z
    · have h1 := t.fr a z
      cases q : K0 a with
      | none => rfl
      | some o =>
        rw [ext a o q] at h1
        cases h1
    · exact s.fr a (by unfold adrs; rw [List.map_append]; exact List.mem_append_right _ z)
  · rcases List.mem_append.mp m with z | z
    · exact t.cs.mem e z
    · exact t.ext _ _ (keepM e z)
end Cb

/-! generic lemmas: pairs of lists, what is owned -/
namespace Cb
open PySem PySem.Spec PyProof.Rows L2
theorem pget {α β : Type} {F : α → β → Prop} : ∀ {l₁ : List α} {l₂ : List β}, Paired F l₁ l₂ → ∀ {i : Nat} {a : α}, l₁[i]? = some a → ∃ b, l₂[i]? = some b ∧ F a b
  | _, _, .nil, i, a, h => by simp at h
  | _, _, .cons f p, 0, a, h => ⟨_, rfl, by simp at h; exact h ▸ f⟩
  | _, _, .cons f p, i + 1, a, h => by
    simp at h
    simpa using pget p h
theorem pgetr {α β : Type} {F : α → β → Prop} : ∀ {l₁ : List α} {l₂ : List β}, Paired F l₁ l₂ → ∀ {i : Nat} {b : β}, l₂[i]? = some b → ∃ a, l₁[i]? = some a ∧ F a b
  | _, _, .nil, i, a, h => by simp at h
  | _, _, .cons f p, 0, a, h => ⟨_, rfl, by simp at h; exact h ▸ f⟩
  | _, _, .cons f p, i + 1, a, h => by
    simp at h
    simpa using pgetr p h
theorem take_snoc {α : Type} {l : List α} {i : Nat} {x : α} (h : l[i]? = some x) : l.take (i + 1) = l.take i ++ [x] := by
  rw [List.take_add_one, h]
  rfl
theorem nodup_take {α : Type} {l : List α} (h : l.Nodup) {i : Nat} {x : α} (hx : l[i]? = some x) : x ∉ l.take i := by
  intro m
  obtain ⟨j, hj, e⟩ := List.mem_iff_getElem.mp m
  have hj2 : j < i := by simp at hj; omega
  have hi : i < l.length := by
    rcases Nat.lt_or_ge i l.length with z | z
    · exact z
    · rw [List.getElem?_eq_none z] at hx; cases hx
  rw [List.getElem?_eq_getElem hi] at hx
  have e1 : l[j]'(by omega) = l[i] := by
    rw [List.getElem_take] at e
    exact e.trans (Option.some.inj hx).symm
  exact absurd ((List.getElem_inj h).mp e1) (by omega)
theorem Sep.c0 {K0 H : Hp} {L : List (Addr × HO)} {a : Addr} {o : HO} (s : Sep K0 H ((a, o) :: L)) : H a = some o := s.cs.1
theorem Sep.c1 {K0 H : Hp} {L : List (Addr × HO)} {a : Addr} {o : HO} {e1 : Addr × HO} (s : Sep K0 H (e1 :: (a, o) :: L)) : H a = some o := s.cs.2.1
theorem Sep.tail {K0 H : Hp} {L : List (Addr × HO)} {e : Addr × HO} (s : Sep K0 H (e :: L)) : Sep K0 H L := ⟨s.ext, (List.nodup_cons.mp s.nd).2, fun a m => s.fr a (List.mem_cons_of_mem _ m), s.cs.2⟩
theorem Sep.put0 {K0 H : Hp} {L : List (Addr × HO)} {a : Addr} {o o' : HO} (s : Sep K0 H ((a, o) :: L)) : Sep K0 (upd H a o') ((a, o') :: L) := Sep.put (L1 := []) s
theorem Sep.freeze {K0 H : Hp} {L : List (Addr × HO)} {a : Addr} {o : HO} (s : Sep K0 H ((a, o) :: L)) : Sep (upd K0 a o) H L := by
  have ha : K0 a = none := s.fr a List.mem_cons_self
  have n := List.nodup_cons.mp s.nd
  refine ⟨fun b u q => ?_, n.2, fun b m => ?_, s.cs.2⟩
  · by_cases e : b = a
    · subst e
      rw [upd_same] at q
      exact (Option.some.inj q) ▸ s.cs.1
    · rw [upd_ne e] at q
      exact s.ext b u q
  · have ne : b ≠ a := fun q => n.1 (q ▸ m)
    rw [upd_ne ne]
    exact s.fr b (List.mem_cons_of_mem _ m)
theorem Sep.new0 {K0 H : Hp} {L : List (Addr × HO)} {a : Addr} {o : HO} (s : Sep K0 H ((a, o) :: L)) : Same K0 (upd K0 a o) := same_new (Same.refl K0) (s.fr a List.mem_cons_self)
theorem Sep.newk {K0 H : Hp} {L : List (Addr × HO)} (s : Sep K0 H L) {p : Addr} {o : HO} (h : H p = none) : Same K0 (upd K0 p o) := same_new (Same.refl K0) (s.free h).1
theorem Same.tr {A B C : Hp} (h : Same A B) (g : Same B C) : Same A C := fun b o z => g b o (h b o z)
theorem Sep.grow {K0 H H1 : Hp} {L : List (Addr × HO)} (s : Sep K0 H L) (g : Same H H1) : Sep K0 H1 L := ⟨Same.tr s.ext g, s.nd, s.fr, Cells.of fun e m => g _ _ (s.cs.mem e m)⟩
theorem Sep.swap {K0 H : Hp} {L : List (Addr × HO)} {e f : Addr × HO} (s : Sep K0 H (e :: f :: L)) : Sep K0 H (f :: e :: L) := s.perm (List.Perm.swap _ _ _)
theorem Sep.own' {K0 H H' : Hp} {L : List (Addr × HO)} (s : Sep K0 H L) (g : Same H H') {p : Addr} {o : HO} (h : H p = none) (h' : H' p = some o) : Sep K0 H' ((p, o) :: L) := by
  obtain ⟨h0, hm⟩ := s.free h
  refine ⟨Same.tr s.ext g, List.nodup_cons.mpr ⟨hm, s.nd⟩, fun a ma => ?_, h', (s.grow g).cs⟩
  rcases List.mem_cons.mp ma with z | z
  · exact z ▸ h0
  · exact s.fr a z
theorem atIm {v : V} {l : List V} : atI (l ++ [v]) (-1) = some v := by
  unfold atI ixN
  rw [if_neg (by decide), if_pos (by simp; omega)]
  simp
  rw [show (-1 + ((l.length : Int) + 1)).toNat = l.length by omega]
  simp
theorem atIn {α : Type} {l : List α} {n : Nat} {v : α} (h : l[n]? = some v) : atI l (n : Nat) = some v := by
  have hn : n < l.length := by
    rcases Nat.lt_or_ge n l.length with z | z
    · exact z
    · rw [List.getElem?_eq_none z] at h; cases h
  unfold atI ixN
  rw [if_pos (by omega), if_pos (by omega)]
  simpa using h
theorem psnoc {α β : Type} {F : α → β → Prop} {m : List β} {b : β} : ∀ {l : List α}, Paired F l (m ++ [b]) → ∃ l' a, l = l' ++ [a] ∧ Paired F l' m ∧ F a b := by
  induction m with
  | nil =>
    intro l h
    cases h with
    | cons f p => cases p with
      | nil => exact ⟨[], _, rfl, .nil, f⟩
  | cons c m ih =>
    intro l h
    cases h with
    | cons f p =>
      obtain ⟨l', a, rfl, p', f'⟩ := ih p
      exact ⟨_ :: l', a, rfl, .cons f p', f'⟩
theorem Same.lst {K : PySem.W.Frag} {H H' : Hp} {a : Addr} {xs : List V} (e : Same H H') (h : SqL K H a xs) : SqL K H' a xs := h.elim (fun h => .inl (Same.rd e h)) .inr
section
variable {K0 H : Hp} {L : List (Addr × HO)} {a1 a2 a3 a4 a5 : Addr × HO} {a : Addr} {x y : HO}
theorem Sep.c2 (s : Sep K0 H (a1 :: a2 :: (a, x) :: L)) : H a = some x := s.cs.2.2.1
theorem Sep.c3 (s : Sep K0 H (a1 :: a2 :: a3 :: (a, x) :: L)) : H a = some x := s.cs.2.2.2.1
theorem Sep.c4 (s : Sep K0 H (a1 :: a2 :: a3 :: a4 :: (a, x) :: L)) : H a = some x := s.cs.2.2.2.2.1
theorem Sep.c5 (s : Sep K0 H (a1 :: a2 :: a3 :: a4 :: a5 :: (a, x) :: L)) : H a = some x := s.cs.2.2.2.2.2.1
theorem Sep.put1 (s : Sep K0 H (a1 :: (a, x) :: L)) : Sep K0 (upd H a y) (a1 :: (a, y) :: L) := Sep.put (L1 := [a1]) s
theorem Sep.put2 (s : Sep K0 H (a1 :: a2 :: (a, x) :: L)) : Sep K0 (upd H a y) (a1 :: a2 :: (a, y) :: L) := Sep.put (L1 := [a1, a2]) s
theorem Sep.put3 (s : Sep K0 H (a1 :: a2 :: a3 :: (a, x) :: L)) : Sep K0 (upd H a y) (a1 :: a2 :: a3 :: (a, y) :: L) := Sep.put (L1 := [a1, a2, a3]) s
theorem Sep.put4 (s : Sep K0 H (a1 :: a2 :: a3 :: a4 :: (a, x) :: L)) : Sep K0 (upd H a y) (a1 :: a2 :: a3 :: a4 :: (a, y) :: L) := Sep.put (L1 := [a1, a2, a3, a4]) s
theorem Sep.put5 (s : Sep K0 H (a1 :: a2 :: a3 :: a4 :: a5 :: (a, x) :: L)) : Sep K0 (upd H a y) (a1 :: a2 :: a3 :: a4 :: a5 :: (a, y) :: L) := Sep.put (L1 := [a1, a2, a3, a4, a5]) s
end
theorem Sep.up2 {K0 H : Hp} {L : List (Addr × HO)} {a1 a2 e : Addr × HO} (s : Sep K0 H (a1 :: a2 :: e :: L)) : Sep K0 H (e :: a1 :: a2 :: L) := s.perm (List.perm_middle (l₁ := [a1, a2])).symm
theorem small8 {n : Nat} (h : n ≤ 8) : n ≤ sizeLine := Nat.le_trans h (by decide)
theorem sm {n m : Nat} (h : n ≤ m) (h2 : m ≤ sizeLine := by decide) : n ≤ sizeLine := Nat.le_trans h h2
theorem hu64_of {k : Nat} {A : Around} (h : Room k A) : A.units + 64 < cLine := by
  have := h.un
  omega
theorem pmap {α β γ : Type} {F : γ → β → Prop} {f : α → γ} {g : α → β} : ∀ {l : List α}, (∀ a ∈ l, F (f a) (g a)) → Paired F (l.map f) (l.map g)
  | [], _ => .nil
  | a :: l, h => .cons (h a List.mem_cons_self) (pmap fun b m => h b (List.mem_cons_of_mem _ m))
theorem papp {α β : Type} {F : α → β → Prop} {l2 : List α} {m2 : List β} (h2 : Paired F l2 m2) : ∀ {l1 : List α} {m1 : List β}, Paired F l1 m1 → Paired F (l1 ++ l2) (m1 ++ m2)
  | _, _, .nil => h2
  | _, _, .cons a p => .cons a (papp h2 p)
theorem psnoc' {α β : Type} {F : α → β → Prop} {l : List α} {m : List β} {a : α} {b : β} (h : Paired F l m) (f : F a b) : Paired F (l ++ [a]) (m ++ [b]) := papp (.cons f .nil) h
theorem ptake {α β : Type} {F : α → β → Prop} : ∀ {l : List α} {m : List β}, Paired F l m → ∀ i, Paired F (l.take i) (m.take i)
  | _, _, .nil, i => by simp; exact .nil
  | _, _, .cons a p, 0 => .nil
  | _, _, .cons a p, i + 1 => .cons a (ptake p i)
theorem prev {α β : Type} {F : α → β → Prop} : ∀ {l : List α} {m : List β}, Paired F l m → Paired F l.reverse m.reverse
  | _, _, .nil => .nil
  | _, _, .cons a p => by
    rw [List.reverse_cons, List.reverse_cons]
    exact psnoc' (prev p) a
theorem lookup_mapk {f : Str × NameKind → Str × NameKind} (h1 : ∀ p, (f p).1 = p.1) (h2 : ∀ p : Str × NameKind, (p.2 = .cell ∨ p.2 = .free) → ((f p).2 = .cell ∨ (f p).2 = .free)) : ∀ {names : List (Str × NameKind)} {x : Str}, (names.lookup x = some .cell ∨ names.lookup x = some .free) → ((names.map f).lookup x = some .cell ∨ (names.map f).lookup x = some .free)
  | [], _, h => by simp at h
  | p :: r, x, h => by
    have ih := lookup_mapk h1 h2 (names := r) (x := x)
    rw [List.map_cons]
    obtain ⟨n, k⟩ := p
    generalize hf : f (n, k) = q
    obtain ⟨n', k'⟩ := q
    have e1 : n' = n := by
      have z := h1 (n, k)
      rw [hf] at z
      exact z
    have e2 : (k = .cell ∨ k = .free) → (k' = .cell ∨ k' = .free) := fun z => by
      have y := h2 (n, k) z
      rw [hf] at y
      exact y
    subst e1
    rw [List.lookup_cons]
    rw [List.lookup_cons] at h
    cases hx : x == n' with
    | true =>
      rw [hx] at h
      simp only [Option.some.injEq] at h ⊢
      exact e2 h
    | false =>
      rw [hx] at h
      exact ih h
/-- a comprehension within one: its block is well-formed in the relabelled scope, too -/
theorem blkOk_rel {N : List Str} {sc scope : Scope} {own : List (Str × Nat)} {env : Env} (h : blkC N sc scope own = true) : BlkOk N (relabel sc env) scope own := by
  have b := blkOk_by h
  refine ⟨b.kind, b.uniq, b.ix, fun y hy e => ?_, b.own⟩
  refine lookup_mapk (f := fun p => if (p.2 == NameKind.free && env.scope.kind == .function && env.kindOf p.1 == some .cell) then (p.1, NameKind.cell) else (p.1, p.2)) (fun p => ?_) (fun p hp => ?_) (b.free y hy e)
  · split <;> rfl
  · split
    · exact .inl rfl
    · exact hp
end Cb

/-! defs whose first act is super().m(..) -/
namespace Cb
open PySem PySem.Spec PyProof.Rows L2 LamX NdefX
/-- a def of a class: its name __class__ is a cell that holds the class at D -/
abbrev supF (name qual : Str) (params : Arguments) (body : List Stmt) (scope : Scope) (cc cda : Addr) : NF := ⟨name, qual, params, body, scope, [("__class__", cc)], cda⟩
section
variable {CX : CXT} {P : Program} {w : World} {K : PySem.W.Frag} {mg : Str → Option Value} {base : Heap} {k : Nat} {f cc cda D : Addr} {name qual : Str} {params : Arguments} {body : List Stmt} {scope : Scope} {dV kV doc pm ct oc cl0 : Value} {an od cd0 : Option Addr}
  {osl cs0 : Array (Option Value)} {N ps : List Str} {sp : Sp}
theorem fnS_of (lk : K.lookup f = some ⟨oc, od, .func (PySem.W.fnX name qual params body scope [("__class__", cc)] dV kV doc pm an (.ref cda) ct), osl⟩) (hcd : PySem.W.codeIn K (.ref cda) qual = true) (S : NScope N ps ["__class__"] scope)
    (hcell : K.lookup cc = some ⟨cl0, cd0, .cell (some (.ref D)), cs0⟩) (len : ∀ vs H Q E, sp vs H Q E → vs.length = ps.length)
    (hbody : ∀ (A : Around) (outer : List Env) (s s1 : Shared) (H : Hp) (vs : List V) (Q : VK) (E : XK), Room k (A.deeper (envF (supF name qual params body scope cc cda) f s.heap.objs.size)) → sp vs H Q E →
      Inv (ncx CX P w K mg base N (supF name qual params body scope cc cda) f A outer s H E) [] (startF N vs [none]) H s1 →
      PySem.wpAt (model P w) (A.deeper (envF (supF name qual params body scope cc cda) f s.heap.objs.size)) (.func body (envF (supF name qual params body scope cc cda) f s.heap.objs.size)) (execs body (envF (supF name qual params body scope cc cda) f s.heap.objs.size))
        (SP (ncx CX P w K mg base N (supF name qual params body scope cc cda) f A outer s H E) [] { nx := fun _ H' => Q .non H', rt := Q }) (ncx CX P w K mg base N (supF name qual params body scope cc cda) f A outer s H E).xe s1) :
    FnOk P w K mg base CX (k + 1) f (PySem.W.fnX name qual params body scope [("__class__", cc)] dV kV doc pm an (.ref cda) ct) ps sp := by
  refine ⟨len, fun A outer s H args us vs Q E hr e0 hb r hsp => ?_⟩
  have hl := len _ _ _ _ hsp
  have KX : K.In s.heap := e0.mod.kin.keeps fun b o e => (e0.bs b o e).1
  have lim : s.heap.NoLimit := e0.mod.nolimit.keeps fun b o e => (e0.bs b o e).1
  have hcc : H cc = none := (e0.bs _ _ (e0.mod.kin _ _ hcell)).2
  have C : CellsAt (supF name qual params body scope cc cda).cl ["__class__"] [none] s.heap H := by
    refine ⟨rfl, fun y c e => ?_, fun x y c e1 e2 => ?_, fun i y e => ?_⟩
    · have e' : ([(("__class__" : Str), cc)] : List (Str × Addr)).lookup y = some c := e
      simp only [List.lookup] at e'
      split at e'
      · obtain rfl := Option.some.inj e'
        exact ⟨hcc, _, _, KX _ _ hcell, rfl⟩
      · cases e'
    · have e1' : ([(("__class__" : Str), cc)] : List (Str × Addr)).lookup x = some c := e1
      have e2' : ([(("__class__" : Str), cc)] : List (Str × Addr)).lookup y = some c := e2
      simp only [List.lookup] at e1' e2'
      split at e1'
      · rename_i h1
        split at e2'
        · rename_i h2
          rw [beq_iff_eq] at h1 h2
          rw [h1, h2]
        · cases e2'
      · cases e1'
    · have hi : i = 0 := by
        cases i with
        | zero => rfl
        | succ i => simp at e
      subst hi
      have ey : y = "__class__" := by simpa using e.symm
      subst ey
      exact ⟨cc, by simp [List.lookup], fun v z => by simp at z⟩
  refine codeAny_call_function hr.depth (KX _ _ lk) rfl S.co S.gen rfl (PySem.W.codeRec_of KX hcd) (hb _ _ _ _ ?_)
  refine wpAny_newFunctionEnv S.nocell (fun ⟨n, _⟩ hy => S.par n (List.of_mem_zip hy).1) (fun h₁ hns hsb => ⟨lim.fresh _ hsb, ?_⟩) S.kind
  have kp : ∀ b o, s.heap.get? b = some o → h₁.get? b = some o := fun b o e => hsb.extBut b o (Nat.ne_of_lt (Heap.lt_size e)) (Heap.get?_push_of_some _ e)
  have I : Inv (ncx CX P w K mg base N (supF name qual params body scope cc cda) f A outer s H E) [] (startF N vs [none]) H { s with heap := h₁, toks := s.toks + (ps.zip us).length } := inv_startN S hr.hd e0 hl r C hns kp
  show codeAny _ _ (.func body (envF (supF name qual params body scope cc cda) f s.heap.objs.size)) _ _
  refine PySem.ks_codeAny_funcAt ?_
  have hw := hbody A outer s _ H vs Q E (hr.deeper _) hsp I
  refine PySem.wpAt_mono hw (fun fl s' hs => ?_) fun e s' hs => hs
  have fin : ∀ {σ' : L2.St} {H' : Hp} {v : V} {u : Value}, Inv (ncx CX P w K mg base N (supF name qual params body scope cc cda) f A outer s H E) [] σ' H' s' → L2.RelV v u → Q v H' → CE outer P w H s Q u s' :=
    fun {σ' H' v u} J rv q => ⟨v, H', J.os, J.bare, J.base, J.hok, rv, q⟩
  cases fl with
  | ret u =>
    obtain ⟨v, σ', H', J, rv, q⟩ := hs
    exact fin J rv q
  | next =>
    obtain ⟨σ', H', J, q⟩ := hs
    exact fin (v := V.non) (u := Value.none) J rfl q
  | brk =>
    obtain ⟨_, _, _, q⟩ := hs
    exact False.elim q
  | cont =>
    obtain ⟨_, _, _, q⟩ := hs
    exact False.elim q
end
/-- what the text says of such a def: its function at f, its code at cda, its class's cell at cc, the class at D -/
structure SupT (P : Program) (K : PySem.W.Frag) (mg : Str → Option Value) (params : Arguments) (scope : Scope) (f cc cda D : Addr) (sf : Str) : Prop where
  fn : ∃ oc od fd osl, K.lookup f = some ⟨oc, od, .func fd, osl⟩ ∧ fd.params = params
  ar : ∃ a : Arg, (params.posonlyargs ++ params.args).head? = some a ∧ a.arg = sf
  code : ∃ ccl cdd vs ccs file tf, K.lookup cda = some ⟨ccl, cdd, .fields vs, ccs⟩ ∧ vs[2]? = some (.str file tf) ∧ ((P.main.file : Str) == file) = true
  cell : ∃ cl0 cd0 cs0, K.lookup cc = some ⟨cl0, cd0, .cell (some (.ref D)), cs0⟩
  cls : ∃ cd, PySem.W.clsIn K D = some cd
  sup : mg "super" = none
  top : (P.main.scope.names.lookup ("super" : Str)).isSome = false
  ks : scope.names.lookup ("super" : Str) = some .globalImplicit
  kc : scope.names.lookup ("__class__" : Str) = some .free
  ka : scope.names.lookup sf = some .local
theorem boot_super : bootBuiltins "super" = some (.type "super") := by decide +kernel
section
variable {CX : CXT} {P : Program} {w : World} {K : PySem.W.Frag} {mg : Str → Option Value} {base : Heap} {f cc cda D : Addr} {name qual : Str} {params : Arguments} {body : List Stmt} {scope : Scope} {N : List Str} {A : Around} {outer : List Env} {s s1 : Shared} {H H1 : Hp} {E : XK} {σ : L2.St} {pins : List (Addr × Obj)} {sf : Str}
theorem sup_obj {x C : Addr} {ox : Obj} {attr : Str} {whole : Sem Value} {p0 p1 : Pos} {Q : Value → Shared → Prop} {E1 : Value → Shared → Prop} (T : SupT P K mg params scope f cc cda D sf)
    (I : Inv (ncx CX P w K mg base N (supF name qual params body scope cc cda) f A outer s H E) pins σ H1 s1) (hN : N[0]? = some sf) (h0 : σ[0]? = some (some (.ref x))) (hat : (attr == ("__class__" : Str)) = false)
    (hx : s1.heap.get? x = some ox) (hxc : ox.cls = .ref C) (hnc : ∀ c, ox.data ≠ .cls c) (hsub : PySem.W.mroIn K C (.ref D) = some true)
    (h : ∀ h', h'.get? s1.heap.objs.size = some { cls := .type "super", dict := none, data := .fields #[.ref D, .ref x, .ref C], slots := #[] } → (∀ y o, s1.heap.get? y = some o → h'.get? y = some o) → Q (.ref s1.heap.objs.size) { s1 with heap := h' }) :
    PySem.wpAt (model P w) (A.deeper (envF (supF name qual params body scope cc cda) f s.heap.objs.size)) (.func body (envF (supF name qual params body scope cc cda) f s.heap.objs.size)) (attributeBase (.Call (.Name "super" p0) [] [] p1) attr (envF (supF name qual params body scope cc cda) f s.heap.objs.size) whole) Q E1 s1 := by
  obtain ⟨oc, od, fd, osl, hf, hpar⟩ := T.fn
  obtain ⟨ar, har, hself⟩ := T.ar
  obtain ⟨ccl, cdd, vs, ccs, file, tf, hcode, hvs, hfile⟩ := T.code
  obtain ⟨cl0, cd0, cs0, hcell⟩ := T.cell
  obtain ⟨cdD, hD⟩ := T.cls
  have X : K.In s1.heap := I.kIn
  obtain ⟨oD, hD1, hD2⟩ : ∃ oD, s1.heap.get? D = some oD ∧ oD.data = .cls cdD := by
    unfold PySem.W.clsIn at hD
    split at hD
    · rename_i c d cd' sl ho
      cases hD
      exact ⟨_, X _ _ ho, rfl⟩
    · cases hD
  have bt := I.mod.blt
  obtain ⟨mb, hb1, hb2⟩ := bt
  have gk := I.mod.glob.keeps I.bk
  have bk := hb1.keeps I.bk
  obtain ⟨m, hns, hlk⟩ := I.loc
  obtain ⟨u, ru, hm⟩ := hlk 0 sf (.ref x) hN h0 (.inl T.ka)
  have hm2 : m sf = some u := by
    rcases hm with ⟨_, e⟩ | ⟨z, _⟩
    · exact e
    · rcases z with z | z
      · have z : scope.names.lookup sf = some .cell := z
        rw [T.ka] at z
        cases z
      · have z : scope.names.lookup sf = some .free := z
        rw [T.ka] at z
        cases z
  obtain rfl : u = Value.ref x := ru
  subst hself
  obtain ⟨hh, g, d, t, os⟩ := s1
  refine PySem.ks_wpAt_super_base T.ks T.kc hat rfl (X _ _ hf) rfl (hpar ▸ har) rfl (X _ _ hcode) rfl hvs hfile T.top ?_
  refine PySem.W.ks_loadName_global (show scope.kind = .function from I.ok.kind) T.ks (Calls.loadGlobal_builtin gk T.sup bk ((hb2 "super" (by decide)).trans boot_super) ⟨rfl, ?_⟩)
  refine wpAny_loadName_free (c := cc) I.ok.kind T.kc rfl ⟨_, X _ _ hcell, rfl⟩ ?_
  refine wpAny_loadName_local I.ok.kind T.ka hns hm2 ?_
  refine PySem.ks_wpAny_isType_cls hD1 hD2 ⟨rfl, ?_⟩
  exact PySem.ks_wpAny_call_super hD1 hD2 hx hxc hnc (PySem.W.looks_mroIn X hsub) fun h' e k => h h' e k
end
/-! ### an exception's own __init__ that begins with super().__init__(e) -/
section
variable {prog : Program} {w : World} {A : Around} {E : Value → Shared → Prop} {h : Heap} {g : Array GenState} {d : Drawn} {t : Nat} {os : OsState}
/-- the bound ValueError.__init__ at u, called -/
theorem call_mwV {u e C t0 : Addr} {nm q : Str} {N : Addr} {bs bm : List Value} {hdct : Bool} {sn : List Str} {sub : List Value} {ab : Bool} {col : Option Bool} {dd : Option Addr} {k0 k1 k2 k3 k5 : Option Value} {rest : List Value} {Q : Value → Shared → Prop}
    (hC : h.get? C = some (excClassObj nm q C N bs bm hdct sn sub ab col dd k0 k1 k2 k3 k5 "ValueError.__new__")) (he : h.get? e = some (HandSPX.excO C t0)) (hu : h.get? u = some (PySem.W.kxs_mw "ValueError.__init__" e)) (hrest : rest.length ≤ sizeLine)
    (hq : ∀ h' t1, (∀ b o, b ≠ e → h.get? b = some o → h'.get? b = some o) → h'.get? e = some (HandSPX.excO C t1) → Q .none ⟨h', g, d, t, os⟩) :
    wpAny (model prog w) A (call (.ref u) rest) Q E ⟨h, g, d, t, os⟩ := by
  refine wpAny_call (codeAny_of_tree ?_)
  show wpAny _ A.in1 (callAny (.ref u) ⟨rest, []⟩) _ _ _
  simp only [callAny]
  refine wpAny_bind (wpAny_load hu ?_)
  simp only [PySem.W.kxs_mw, show (Value.type "method-wrapper" == Value.type "method" || Value.type "method-wrapper" == Value.type "builtin_function_or_method" || Value.type "method-wrapper" == Value.type "method-wrapper") = true by decide, if_true]
  refine PySem.W.KFB.if_so (by decide) ?_
  refine wpAny_bind (PySem.ESX.check_bound F.excBase_ValueError hC he rfl ?_)
  refine wpAny_bind (wpAny_pure (wpAny_pure ?_))
  refine ⟨PySem.plainId_quiet F.excBase_ValueError.init.plain _, codeAny_builtin F.excBase_ValueError.initEntry ?_⟩
  rw [Around.under_plainId F.excBase_ValueError.init.plain _]
  wp_walk
  refine hq _ h.objs.size (fun b o hb ho => ?_) ?_
  · rw [Heap.get?_update_other _ _ (Ne.symm hb)]
    exact Heap.get?_push_of_some _ ho
  · rw [Heap.get?_update_self _ (Heap.get?_push_of_some _ he) rfl]
    rfl
end
/-- what the text says of an exception class with such an __init__ -/
structure SupE (K : PySem.W.Frag) (C : Addr) : Prop where
  o : OexC K C
  si : PySem.W.ks_superIn K C C "__init__" = some (some (.builtin "ValueError.__init__"))
  mr : PySem.W.mroIn K C (.ref C) = some true
  sv : PySem.W.subIn K (.ref C) (.type "ValueError") = some true
  op : PySem.W.nsIn K PySem.cStatics "thirdparty.any" = some none
/-- super().__init__(e), then the rest -/
def tSupE (C : Addr) (te : TE) (t : TS) : TS := fun D σ H => ∃ a, σ[0]? = some (some (.ref a)) ∧ H a = some (exo a C none) ∧ te σ H fun _ H1 => H1 a = some (exo a C none) ∧ t D σ H1
section
variable {CX : CXT} {P : Program} {w : World} {K : PySem.W.Frag} {mg : Str → Option Value} {base : Heap} {f cc cda C : Addr} {name qual : Str} {params : Arguments} {body rest : List Stmt} {scope : Scope} {N : List Str} {A : Around} {outer : List Env} {s s1 : Shared} {H H1 : Hp} {E : XK} {σ : L2.St} {sf : Str}
theorem wp_supE {pl : Sem Bool} {e : Expr} {te : TE} {t : TS} {D : Ends} {p0 p1 pa pc ps : Pos} (T : SupT P K mg params scope f cc cda C sf) (G : SupE K C) (hN : N[0]? = some sf)
    (he : PE (ncx CX P w K mg base N (supF name qual params body scope cc cda) f A outer s H E) e te) (hr : PSs (ncx CX P w K mg base N (supF name qual params body scope cc cda) f A outer s H E) rest t)
    (I : Inv (ncx CX P w K mg base N (supF name qual params body scope cc cda) f A outer s H E) [] σ H1 s1) (h : tSupE C te t D σ H1)
    (hs : starEach [e] (envF (supF name qual params body scope cc cda) f s.heap.objs.size) = (false, eval e (envF (supF name qual params body scope cc cda) f s.heap.objs.size)) :: starEach [] (envF (supF name qual params body scope cc cda) f s.heap.objs.size) := by rfl) (hp : (backTo pc (starEach [] (envF (supF name qual params body scope cc cda) f s.heap.objs.size))).any (·.1) = false := by rfl)
    (hev : eval (.Call (.Attribute (.Call (.Name "super" p0) [] [] p1) "__init__" pa) [e] [] pc) (envF (supF name qual params body scope cc cda) f s.heap.objs.size) = (do
      let ov ← attributeBase (.Call (.Name "super" p0) [] [] p1) "__init__" (envF (supF name qual params body scope cc cda) f s.heap.objs.size) (eval (.Call (.Name "super" p0) [] [] p1) (envF (supF name qual params body scope cc cda) f s.heap.objs.size))
      standAt pa.atName
      let (fx, first) ← holding [ov] (getMethod ov "__init__" pl)
      callWith pc fx first (backTo pc (starEach [e] (envF (supF name qual params body scope cc cda) f s.heap.objs.size))) []) := by rfl)
    (hin : interactive (envF (supF name qual params body scope cc cda) f s.heap.objs.size) = false := by rfl) :
    PySem.wpAt (model P w) (A.deeper (envF (supF name qual params body scope cc cda) f s.heap.objs.size)) (.func body (envF (supF name qual params body scope cc cda) f s.heap.objs.size))
      (execs (.Expr (.Call (.Attribute (.Call (.Name "super" p0) [] [] p1) "__init__" pa) [e] [] pc) ps :: rest) (envF (supF name qual params body scope cc cda) f s.heap.objs.size))
      (SP (ncx CX P w K mg base N (supF name qual params body scope cc cda) f A outer s H E) [] D) (ncx CX P w K mg base N (supF name qual params body scope cc cda) f A outer s H E).xe s1 := by
  obtain ⟨a, h0, ha, hte⟩ := h
  obtain ⟨t1, hx⟩ := exo_at I.hok ha
  obtain ⟨nm, q, Nn, bs, bm, sn, sub, ab, col, dd, k0, k1, k2, k3, k5, hC, hbm⟩ := G.o.cls
  have X0 : K.In s1.heap := I.kIn
  have hne : a ≠ C := fun z => by
    have z2 := X0 _ _ hC
    rw [← z, hx] at z2
    cases z2
  refine PySem.ks_wpAt_execs_cons (PySem.ks_wpAt_Expr_any (PySem.ks_wpAt_MethodCall (sup_obj T I hN h0 (by decide) hx rfl (fun c z => nomatch z) G.mr fun h' hso kk => ?_) hev) hin)
  have X1 : K.In h' := fun b o z => kk b o (X0 b o z)
  have hsi := G.si
  unfold PySem.W.ks_superIn at hsi
  cases hc : PySem.W.clsIn K C with
  | none =>
    rw [hc] at hsi
    cases hsi
  | some cd =>
    rw [hc] at hsi
    have LT : PySem.W.Looks (model P w) h' (typeOf (.ref a)) (.ref C) := fun A Q E s k q => wpAny_typeOf_ref (k _ _ (kk _ _ hx)) q
    have LI : PySem.W.Looks (model P w) h' (isInstance (.ref a) (.type "ValueError")) true := LT.andThen (PySem.W.looks_subIn X1 G.sv)
    obtain ⟨hh, g, d, tk, os⟩ := s1
    refine PySem.W.kxs_getMethod PySem.W.kxs_ValueError hso (PySem.W.looks_opaque X1 G.op) (l₀ := cd.mro) (fun A Q E s k q => wpAny_bind ((PySem.W.looks_clsIn X1 hc) A _ E s k (wpAny_pure q))) rfl X1 hsi LI hne (by decide) ?_
    have I2 : Inv (ncx CX P w K mg base N (supF name qual params body scope cc cda) f A outer s H E) [] σ H1 { heap := h'.push (PySem.W.kxs_mw "ValueError.__init__" a), gens := g, drawn := d, toks := tk + 1, os := os } := I.kept fun b o z => Heap.get?_push_of_some _ (kk b o z)
    have hu : (h'.push (PySem.W.kxs_mw "ValueError.__init__" a)).get? h'.objs.size = some (PySem.W.kxs_mw "ValueError.__init__" a) := Heap.get?_push_size _ rfl
    have hlt : hh.objs.size ≤ h'.objs.size := Nat.le_of_lt (Heap.lt_size hso)
    have I3 := I2.pins_of (pins' := [(h'.objs.size, PySem.W.kxs_mw "ValueError.__init__" a)]) fun p hp => by
      obtain rfl := List.mem_singleton.mp hp
      exact ⟨hu, I.hok.fresh hlt, (fun z => by
        have z1 := I.lt
        have z2 : h'.objs.size = (ncx CX P w K mg base N (supF name qual params body scope cc cda) f A outer s H E).env.locals := z
        rw [← z2] at z1
        exact absurd z1 (Nat.not_lt_of_le hlt)), I.nofs hlt, fun v z => nomatch z⟩
    show wpAny _ _ (callWith pc (.ref h'.objs.size) [] (backTo pc (starEach [e] (envF (supF name qual params body scope cc cda) f s.heap.objs.size))) []) _ _ _
    rw [hs]
    refine PySem.W.kxs_callWith (i := "ValueError.__init__") (x := a) (by show (false || (backTo pc (starEach [] (envF (supF name qual params body scope cc cda) f s.heap.objs.size))).any (·.1)) = false; rw [hp]; rfl) ?_
    refine Calls.evalArgs_plain ?_
    show wpAny _ _ (spliced ((false, eval e (envF (supF name qual params body scope cc cda) f s.heap.objs.size)) :: backTo pc (starEach [] (envF (supF name qual params body scope cc cda) f s.heap.objs.size)))) _ _ _
    refine Calls.spliced_cons (thn (he.run [(h'.objs.size, PySem.W.kxs_mw "ValueError.__init__" a)] _ σ H1 _ I3 hte) fun v s3 ⟨vv, H3, I4, rv, ha3, ht⟩ => ?_)
    have hpin := I4.pin _ (List.mem_append_right _ List.mem_cons_self)
    refine Calls.spliced_nil ⟨hpin.1, ?_⟩
    have I5 := I4.pins_of (pins' := []) (fun p hp => nomatch hp)
    obtain ⟨t2, hx3⟩ := exo_at I5.hok ha3
    obtain ⟨hp3, g3, d3, tk3, os3⟩ := s3
    refine call_mwV (I5.kIn _ _ hC) hx3 hpin.1 (by show 1 ≤ sizeLine; rw [sizeLine_eq]; omega) fun h4 t4 k4 hx4 => ?_
    have J := I5.write (t' := tk3) (x := a) (e := a) (o := exo a C none) (by rw [ha3]; exact True.intro) (.inl rfl) k4 ⟨_, hx4⟩ (exo_ok hx4)
    have eu : upd H3 a (exo a C none) = H3 := by
      funext b
      by_cases hb : b = a
      · rw [hb, upd_same, ha3]
      · rw [upd_ne hb]
    rw [eu] at J
    exact PySem.wpAt_of_wpAny (hr.run [] _ σ H3 D J ht)
end
/-! ### what the head tells of such a def -/
/-- the def at f, its class at D, the module's file -/
structure FunS (K : PySem.W.Frag) (file x qual : Str) (params : Arguments) (body : List Stmt) (scope : Scope) (dvs : List V) (kws : List (Str × V)) (f D : Addr) (fd : FuncData) : Prop where
  ex : ∃ (oc : Value) (od : Option Addr) (dV kV doc pm : Value) (an : Option Addr) (cc cda : Addr) (ct : Value) (osl : Array (Option Value)), fd = PySem.W.fnX x qual params body scope [("__class__", cc)] dV kV doc pm an (.ref cda) ct ∧ K.lookup f = some ⟨oc, od, .func fd, osl⟩ ∧ PySem.W.codeIn K (.ref cda) qual = true ∧ DflV K dV dvs ∧ KwdV K kV kws ∧
    (∃ cl0 cd0 cs0, K.lookup cc = some ⟨cl0, cd0, .cell (some (.ref D)), cs0⟩) ∧ ∃ ccl cdd vs ccs tf, K.lookup cda = some ⟨ccl, cdd, .fields vs, ccs⟩ ∧ vs[2]? = some (.str file tf)
  kp : PySem.W.keepIn K (.ref f) = true
def fnS (K : PySem.W.Frag) (a : Addr) : He5.FnW := match K.lookup a with
  | some ⟨_, _, .func fd, _⟩ => some (fd.name, fd.qualname, fd.params, fd.body, fd.scope, fd.globals, fd.closure.map (fun p => (p.1, 0)), fd.builtins)
  | _ => none
def valS (d : He5.DefA) : He5.FnW := some (d.name, d.qual, d.params, .stmts d.body, d.scope, mainGlobals, [(("__class__" : Str), 0)], builtinsNs)
def cellB (K : PySem.W.Frag) (cl : List (Str × Addr)) (D : Addr) : Bool := match cl with
  | [(_, cc)] => (match K.lookup cc with
    | some ⟨_, _, .cell (some (.ref D')), _⟩ => decide (D' = D)
    | _ => false)
  | _ => false
def fileB (K : PySem.W.Frag) (cd : Value) (file : Str) : Bool := match cd with
  | .ref c => (match K.lookup c with
    | some ⟨_, _, .fields vs, _⟩ => (match (vs[2]? : Option Value) with
      | some (Value.str fl _) => decide (fl = file)
      | _ => false)
    | _ => false)
  | _ => false
def okS (file : Str) (D : PySem.W.Frag → Addr) (K : PySem.W.Frag) (d : He5.DefA) : Bool := PySem.W.keepIn K (.ref (d.at_ K)) && (match K.lookup (d.at_ K) with
  | some ⟨_, _, .func fd, _⟩ => PySem.W.codeIn K fd.code d.qual && (He.dflB K fd.defaults (d.dvs K) && (He.kwdB K fd.kwdefaults (d.kws K) && (cellB K fd.closure (D K) && fileB K fd.code file)))
  | _ => false)
theorem cellB_ok {K : PySem.W.Frag} {y : Str} {cc D : Addr} (h : cellB K [(y, cc)] D = true) : ∃ cl0 cd0 cs0, K.lookup cc = some ⟨cl0, cd0, .cell (some (.ref D)), cs0⟩ := by
  have h : (match K.lookup cc with
    | some ⟨_, _, .cell (some (.ref D')), _⟩ => decide (D' = D)
    | _ => false) = true := h
  split at h
  · rename_i c d D' sl e
    rw [of_decide_eq_true h] at e
    exact ⟨c, d, sl, e⟩
  · cases h
theorem fileB_ok {K : PySem.W.Frag} {c : Addr} {file : Str} (h : fileB K (.ref c) file = true) : ∃ ccl cdd vs ccs tf, K.lookup c = some ⟨ccl, cdd, .fields vs, ccs⟩ ∧ vs[2]? = some (.str file tf) := by
  unfold fileB at h
  simp only at h
  split at h
  · rename_i cl d vs sl e
    split at h
    · rename_i fl tf e2
      rw [of_decide_eq_true h] at e2
      exact ⟨cl, d, vs, sl, tf, e, e2⟩
    · cases h
  · cases h
theorem funS_of {K : PySem.W.Frag} {d : He5.DefA} {file : Str} {D : PySem.W.Frag → Addr} (e : fnS K (d.at_ K) = valS d) (c : okS file D K d = true) : ∃ fd, FunS K file d.name d.qual d.params d.body d.scope (d.dvs K) (d.kws K) (d.at_ K) (D K) fd := by
  obtain ⟨kp, c2⟩ := He.ba c
  unfold fnS at e
  cases q : K.lookup (d.at_ K) with
  | none =>
    rw [q] at c2
    cases c2
  | some o =>
    obtain ⟨oc, od, dt, osl⟩ := o
    rw [q] at c2 e
    cases dt with
    | func fd =>
      obtain ⟨n1, n2, n3, n4, n5, n6, n7, n8, n9, n10, n11, n12, n13, n14, n15⟩ := fd
      have e2 : (some (n1, n2, n3, n4, n5, n6, n7.map (fun p => (p.1, 0)), n15) : He5.FnW) = some (d.name, d.qual, d.params, .stmts d.body, d.scope, mainGlobals, [(("__class__" : Str), 0)], builtinsNs) := e
      simp only [Option.some.injEq, Prod.mk.injEq] at e2
      obtain ⟨h1, h2, h3, h4, h5, h6, h7, h8⟩ := e2
      subst h1 h2 h3 h4 h5 h6 h8
      have c3 : (PySem.W.codeIn K n13 d.qual && (He.dflB K n8 (d.dvs K) && (He.kwdB K n9 (d.kws K) && (cellB K n7 (D K) && fileB K n13 file)))) = true := c2
      obtain ⟨k1, k2⟩ := He.ba c3
      obtain ⟨k3, k4⟩ := He.ba k2
      obtain ⟨k5, k6⟩ := He.ba k4
      obtain ⟨k7, k8⟩ := He.ba k6
      obtain ⟨cda, rfl⟩ := He.codeIn_ref k1
      rcases n7 with _ | ⟨⟨y, cc⟩, _ | ⟨z, r⟩⟩
      · cases h7
      · have hy : y = "__class__" := by
          have z : (y, 0) = ((("__class__" : Str), 0) : Str × Addr) := by simpa using h7
          exact congrArg Prod.fst z
        subst hy
        exact ⟨_, ⟨oc, od, n8, n9, n10, n11, n12, cc, cda, n14, osl, rfl, q, k1, He.dflB_ok k3, He.kwdB_ok k5, cellB_ok k7, fileB_ok k8⟩, kp⟩
      · have z := congrArg List.length h7
        simp at z
    | _ => cases c2
section
variable {P : Program} {w : World} {K : PySem.W.Frag} {mg : Str → Option Value} {base : Heap}
/-- THE RULE for an exception's own __init__ that begins with super().__init__(e) -/
theorem fnE {pl : Sem Bool} {file x qual : Str} {params : Arguments} {scope : Scope} {dvs : List V} {kws : List (Str × V)} {f C : Addr} {fd : FuncData} {N ps : List Str} {sp : Sp} {k : Nat} {e : Expr} {rest : List Stmt} {p0 p1 pa pc ps0 : Pos} {sf : Str}
    (F : FunS K file x qual params (.Expr (.Call (.Attribute (.Call (.Name "super" p0) [] [] p1) "__init__" pa) [e] [] pc) ps0 :: rest) scope dvs kws f C fd) (hfile : ((P.main.file : Str) == file) = true) (S : NScope N ps ["__class__"] scope) (G : SupE K C) (hsup : mg "super" = none)
    (htop : (P.main.scope.names.lookup ("super" : Str)).isSome = false) (ks : scope.names.lookup ("super" : Str) = some .globalImplicit) (kc : scope.names.lookup ("__class__" : Str) = some .free) (ka : scope.names.lookup sf = some .local)
    (har : ∃ a : Arg, (params.posonlyargs ++ params.args).head? = some a ∧ a.arg = sf) (hN : N[0]? = some sf) (hcls : ∃ cd, PySem.W.clsIn K C = some cd) (len : ∀ vs H Q E, sp vs H Q E → vs.length = ps.length)
    (hbody : ∀ (cc cda : Addr) (A : Around) (outer : List Env) (s : Shared) (H : Hp) (vs : List V) (Q : VK) (E : XK), Room k (A.deeper (envF (supF x qual params (.Expr (.Call (.Attribute (.Call (.Name "super" p0) [] [] p1) "__init__" pa) [e] [] pc) ps0 :: rest) scope cc cda) f s.heap.objs.size)) → sp vs H Q E →
      ∃ te t, PE (ncx C8.CX0 P w K mg base N (supF x qual params (.Expr (.Call (.Attribute (.Call (.Name "super" p0) [] [] p1) "__init__" pa) [e] [] pc) ps0 :: rest) scope cc cda) f A outer s H E) e te ∧ PSs (ncx C8.CX0 P w K mg base N (supF x qual params (.Expr (.Call (.Attribute (.Call (.Name "super" p0) [] [] p1) "__init__" pa) [e] [] pc) ps0 :: rest) scope cc cda) f A outer s H E) rest t ∧ tSupE C te t { nx := fun _ H' => Q .non H', rt := Q } (startF N vs [none]) H)
    (hs : ∀ cc cda L : Addr, starEach [e] (envF (supF x qual params (.Expr (.Call (.Attribute (.Call (.Name "super" p0) [] [] p1) "__init__" pa) [e] [] pc) ps0 :: rest) scope cc cda) f L) = (false, eval e (envF (supF x qual params (.Expr (.Call (.Attribute (.Call (.Name "super" p0) [] [] p1) "__init__" pa) [e] [] pc) ps0 :: rest) scope cc cda) f L)) :: starEach [] (envF (supF x qual params (.Expr (.Call (.Attribute (.Call (.Name "super" p0) [] [] p1) "__init__" pa) [e] [] pc) ps0 :: rest) scope cc cda) f L) := by intros; rfl) (hp : ∀ cc cda L : Addr, (backTo pc (starEach [] (envF (supF x qual params (.Expr (.Call (.Attribute (.Call (.Name "super" p0) [] [] p1) "__init__" pa) [e] [] pc) ps0 :: rest) scope cc cda) f L))).any (·.1) = false := by intros; rfl)
    (hev : ∀ cc cda L : Addr, eval (.Call (.Attribute (.Call (.Name "super" p0) [] [] p1) "__init__" pa) [e] [] pc) (envF (supF x qual params (.Expr (.Call (.Attribute (.Call (.Name "super" p0) [] [] p1) "__init__" pa) [e] [] pc) ps0 :: rest) scope cc cda) f L) = (do
      let ov ← attributeBase (.Call (.Name "super" p0) [] [] p1) "__init__" (envF (supF x qual params (.Expr (.Call (.Attribute (.Call (.Name "super" p0) [] [] p1) "__init__" pa) [e] [] pc) ps0 :: rest) scope cc cda) f L) (eval (.Call (.Name "super" p0) [] [] p1) (envF (supF x qual params (.Expr (.Call (.Attribute (.Call (.Name "super" p0) [] [] p1) "__init__" pa) [e] [] pc) ps0 :: rest) scope cc cda) f L))
      standAt pa.atName
      let (fx, first) ← holding [ov] (getMethod ov "__init__" pl)
      callWith pc fx first (backTo pc (starEach [e] (envF (supF x qual params (.Expr (.Call (.Attribute (.Call (.Name "super" p0) [] [] p1) "__init__" pa) [e] [] pc) ps0 :: rest) scope cc cda) f L))) []) := by intros; rfl)
    (hin : ∀ cc cda L : Addr, interactive (envF (supF x qual params (.Expr (.Call (.Attribute (.Call (.Name "super" p0) [] [] p1) "__init__" pa) [e] [] pc) ps0 :: rest) scope cc cda) f L) = false := by intros; rfl) : FnOk P w K mg base C8.CX0 (k + 1) f fd ps sp := by
  obtain ⟨oc, od, dV, kV, doc, pm, an, cc, cda, ct, osl, rfl, lk, hcd, _, _, hcell, ccl, cdd, vs0, ccs, tf, hcode, hvs⟩ := F.ex
  obtain ⟨cl0, cd0, cs0, hcell⟩ := hcell
  have T : SupT P K mg params scope f cc cda C sf := ⟨⟨oc, od, _, osl, lk, rfl⟩, har, ⟨ccl, cdd, vs0, ccs, file, tf, hcode, hvs, hfile⟩, ⟨cl0, cd0, cs0, hcell⟩, hcls, hsup, htop, ks, kc, ka⟩
  refine fnS_of lk hcd S hcell len fun A outer s s1 H vs Q E hr hsp I => ?_
  obtain ⟨te, t, he, hrr, h⟩ := hbody cc cda A outer s H vs Q E hr hsp
  exact wp_supE (pl := pl) T G hN he hrr I h (hs cc cda _) (hp cc cda _) (hev cc cda _) (hin cc cda _)
end
/-! ### super().m(e, ..), m a method of a base class -/
/-- m as a class C of instances has it behind the class D: the function at g -/
structure SupM (K : PySem.W.Frag) (C D : Addr) (m : Str) (g : Addr) : Prop where
  sm : PySem.W.ks_superIn K C D m = some (some (.ref g))
  ft : PySem.W.typeIn K (.ref g) = some (.type "function")
  fi : PySem.W.fnIn K g = true
  mr : PySem.W.mroIn K C (.ref D) = some true
  cl : ∃ cd sl dd, K.lookup C = some ⟨.type "type", dd, .cls cd, sl⟩
  op : PySem.W.nsIn K PySem.cStatics "thirdparty.any" = some none
/-- super().m(e, ..) of an instance of the class at C -/
def tSupM (C : Addr) (sp : Sp) (E : XK) (t : TA) : TE := fun σ H Q => ∃ a dx fs, σ[0]? = some (some (.ref a)) ∧ H a = some (.ins C dx fs) ∧ t σ H fun vs H1 => sp (.ref a :: vs) H1 Q E
section
variable {CX CXb : CXT} {P : Program} {w : World} {K : PySem.W.Frag} {mg : Str → Option Value} {base : Heap} {f cc cda C D g : Addr} {name qual m : Str} {params : Arguments} {body rest : List Stmt} {scope : Scope} {N : List Str} {A : Around} {outer : List Env} {s s1 : Shared} {H H1 : Hp} {E Eb : XK} {σ : L2.St} {sf : Str} {kb : Nat} {sp : Sp}
theorem ev_supM {pl : Sem Bool} {e : Expr} {es : List Expr} {t : TA} {Q : VK} {p0 p1 pa pc : Pos} (T : SupT P K mg params scope f cc cda D sf) (M : SupM K C D m g) (hN : N[0]? = some sf) (hat : (m == ("__class__" : Str)) = false)
    (F : FnR P w K mg base CXb kb g sp) (hrm : Room kb (A.deeper (envF (supF name qual params body scope cc cda) f s.heap.objs.size))) (hx : Passes CXb (ncx CX P w K mg base N (supF name qual params body scope cc cda) f A outer s H E) Eb) (ha : PA (ncx CX P w K mg base N (supF name qual params body scope cc cda) f A outer s H E) (e :: es) t) (I : Inv (ncx CX P w K mg base N (supF name qual params body scope cc cda) f A outer s H E) [] σ H1 s1) (h : tSupM C sp Eb t σ H1 Q)
    (hs : starEach (e :: es) (envF (supF name qual params body scope cc cda) f s.heap.objs.size) = (false, eval e (envF (supF name qual params body scope cc cda) f s.heap.objs.size)) :: starEach es (envF (supF name qual params body scope cc cda) f s.heap.objs.size) := by rfl) (hp : (backTo pc (starEach es (envF (supF name qual params body scope cc cda) f s.heap.objs.size))).any (·.1) = false := by rfl)
    (hev : eval (.Call (.Attribute (.Call (.Name "super" p0) [] [] p1) m pa) (e :: es) [] pc) (envF (supF name qual params body scope cc cda) f s.heap.objs.size) = (do
      let ov ← attributeBase (.Call (.Name "super" p0) [] [] p1) m (envF (supF name qual params body scope cc cda) f s.heap.objs.size) (eval (.Call (.Name "super" p0) [] [] p1) (envF (supF name qual params body scope cc cda) f s.heap.objs.size))
      standAt pa.atName
      let (fx, first) ← holding [ov] (getMethod ov m pl)
      callWith pc fx first (backTo pc (starEach (e :: es) (envF (supF name qual params body scope cc cda) f s.heap.objs.size))) []) := by rfl) :
    PySem.wpAt (model P w) (A.deeper (envF (supF name qual params body scope cc cda) f s.heap.objs.size)) (.func body (envF (supF name qual params body scope cc cda) f s.heap.objs.size)) (eval (.Call (.Attribute (.Call (.Name "super" p0) [] [] p1) m pa) (e :: es) [] pc) (envF (supF name qual params body scope cc cda) f s.heap.objs.size)) (EP (ncx CX P w K mg base N (supF name qual params body scope cc cda) f A outer s H E) [] σ Q) (ncx CX P w K mg base N (supF name qual params body scope cc cda) f A outer s H E).xe s1 := by
  obtain ⟨a, dx, fs, h0, hi, hte⟩ := h
  obtain ⟨mA, O, _, _, _, _⟩ := ins_get I.hok hi
  obtain ⟨cd, sl, dd, hC⟩ := M.cl
  have X0 : K.In s1.heap := I.kIn
  have hc : PySem.W.clsIn K C = some cd := by
    unfold PySem.W.clsIn
    rw [hC]
  have hne : a ≠ C := fun z => by
    have z2 := X0 _ _ hC
    rw [← z, O.obj] at z2
    cases z2
  refine PySem.ks_wpAt_MethodCall (sup_obj T I hN h0 hat O.obj rfl (fun c z => nomatch z) M.mr fun h' hso kk => ?_) hev
  have X1 : K.In h' := fun b o z => kk b o (X0 b o z)
  have hsm := M.sm
  unfold PySem.W.ks_superIn at hsm
  rw [hc] at hsm
  obtain ⟨of, hof, hofc⟩ : ∃ of, h'.get? g = some of ∧ of.cls = .type "function" := by
    have ht' : (K.lookup g).map (·.cls) = some (.type "function") := M.ft
    cases z : K.lookup g with
    | none =>
      rw [z] at ht'
      cases ht'
    | some of =>
      rw [z] at ht'
      exact ⟨of, X1 _ _ z, Option.some.inj ht'⟩
  obtain ⟨hh, gg, d, tk, os⟩ := s1
  refine PySem.ks_wpAny_getMethod_super hso (PySem.W.looks_opaque X1 M.op) (l₀ := cd.mro) (fun A Q E s k q => wpAny_bind ((PySem.W.looks_clsIn X1 hc) A _ E s k (wpAny_pure q))) rfl X1 hsm hof hofc hne hat ?_
  have I1 : Inv (ncx CX P w K mg base N (supF name qual params body scope cc cda) f A outer s H E) [] σ H1 { heap := h', gens := gg, drawn := d, toks := tk, os := os } := I.kept kk
  have I2 := ClX.met_new (g := g) (C := a) I1
  refine ClX.callwith_cm I2 (ClX.base_none I1 (Nat.le_refl _)) M.fi (thn (ha.run pc _ _ σ H1 _ I2 hte) fun us s3 ⟨vs, H2, I3, rv, q2⟩ => ⟨⟨ClX.pin_at I3, I3.kIn⟩, ?_⟩) hs hp
  exact ClX.run_cm F hrm hx I3 rv q2
/-- super().m(e, ..), then the rest -/
theorem wp_supX {pl : Sem Bool} {e : Expr} {es : List Expr} {t : TA} {tr : TS} {Dn : Ends} {p0 p1 pa pc ps0 : Pos} (T : SupT P K mg params scope f cc cda D sf) (M : SupM K C D m g) (hN : N[0]? = some sf) (hat : (m == ("__class__" : Str)) = false)
    (F : FnR P w K mg base CXb kb g sp) (hrm : Room kb (A.deeper (envF (supF name qual params body scope cc cda) f s.heap.objs.size))) (hx : Passes CXb (ncx CX P w K mg base N (supF name qual params body scope cc cda) f A outer s H E) Eb) (ha : PA (ncx CX P w K mg base N (supF name qual params body scope cc cda) f A outer s H E) (e :: es) t) (hr : PSs (ncx CX P w K mg base N (supF name qual params body scope cc cda) f A outer s H E) rest tr) (I : Inv (ncx CX P w K mg base N (supF name qual params body scope cc cda) f A outer s H E) [] σ H1 s1) (h : tSupM C sp Eb t σ H1 fun _ H2 => tr Dn σ H2)
    (hs : starEach (e :: es) (envF (supF name qual params body scope cc cda) f s.heap.objs.size) = (false, eval e (envF (supF name qual params body scope cc cda) f s.heap.objs.size)) :: starEach es (envF (supF name qual params body scope cc cda) f s.heap.objs.size) := by rfl) (hp : (backTo pc (starEach es (envF (supF name qual params body scope cc cda) f s.heap.objs.size))).any (·.1) = false := by rfl)
    (hev : eval (.Call (.Attribute (.Call (.Name "super" p0) [] [] p1) m pa) (e :: es) [] pc) (envF (supF name qual params body scope cc cda) f s.heap.objs.size) = (do
      let ov ← attributeBase (.Call (.Name "super" p0) [] [] p1) m (envF (supF name qual params body scope cc cda) f s.heap.objs.size) (eval (.Call (.Name "super" p0) [] [] p1) (envF (supF name qual params body scope cc cda) f s.heap.objs.size))
      standAt pa.atName
      let (fx, first) ← holding [ov] (getMethod ov m pl)
      callWith pc fx first (backTo pc (starEach (e :: es) (envF (supF name qual params body scope cc cda) f s.heap.objs.size))) []) := by rfl)
    (hin : interactive (envF (supF name qual params body scope cc cda) f s.heap.objs.size) = false := by rfl) :
    PySem.wpAt (model P w) (A.deeper (envF (supF name qual params body scope cc cda) f s.heap.objs.size)) (.func body (envF (supF name qual params body scope cc cda) f s.heap.objs.size)) (execs (.Expr (.Call (.Attribute (.Call (.Name "super" p0) [] [] p1) m pa) (e :: es) [] pc) ps0 :: rest) (envF (supF name qual params body scope cc cda) f s.heap.objs.size)) (SP (ncx CX P w K mg base N (supF name qual params body scope cc cda) f A outer s H E) [] Dn) (ncx CX P w K mg base N (supF name qual params body scope cc cda) f A outer s H E).xe s1 := by
  refine PySem.ks_wpAt_execs_cons (PySem.ks_wpAt_Expr_any (PySem.wpAt_mono (ev_supM T M hN hat F hrm hx ha I h hs hp hev) (fun u s2 hu => ?_) fun _ _ z => z) hin)
  obtain ⟨v, H2, I2, _, q⟩ := hu
  exact PySem.wpAt_of_wpAny (hr.run [] _ σ H2 Dn I2 q)
/-- x = super().m(e, ..), then the rest; x in slot i -/
theorem wp_supA {i : Nat} {x : Str} {px : Pos} (nd : N.Nodup) (hi : N[i]? = some x) (hlx : scope.names.lookup x = some .local) {pl : Sem Bool} {e : Expr} {es : List Expr} {t : TA} {tr : TS} {Dn : Ends} {p0 p1 pa pc ps0 : Pos} (T : SupT P K mg params scope f cc cda D sf) (M : SupM K C D m g) (hN : N[0]? = some sf) (hat : (m == ("__class__" : Str)) = false)
    (F : FnR P w K mg base CXb kb g sp) (hrm : Room kb (A.deeper (envF (supF name qual params body scope cc cda) f s.heap.objs.size))) (hx : Passes CXb (ncx CX P w K mg base N (supF name qual params body scope cc cda) f A outer s H E) Eb) (ha : PA (ncx CX P w K mg base N (supF name qual params body scope cc cda) f A outer s H E) (e :: es) t) (hr : PSs (ncx CX P w K mg base N (supF name qual params body scope cc cda) f A outer s H E) rest tr) (I : Inv (ncx CX P w K mg base N (supF name qual params body scope cc cda) f A outer s H E) [] σ H1 s1) (h : tSupM C sp Eb t σ H1 fun v H2 => tr Dn (σ.set i (some v)) H2)
    (hs : starEach (e :: es) (envF (supF name qual params body scope cc cda) f s.heap.objs.size) = (false, eval e (envF (supF name qual params body scope cc cda) f s.heap.objs.size)) :: starEach es (envF (supF name qual params body scope cc cda) f s.heap.objs.size) := by rfl) (hp : (backTo pc (starEach es (envF (supF name qual params body scope cc cda) f s.heap.objs.size))).any (·.1) = false := by rfl)
    (hev : eval (.Call (.Attribute (.Call (.Name "super" p0) [] [] p1) m pa) (e :: es) [] pc) (envF (supF name qual params body scope cc cda) f s.heap.objs.size) = (do
      let ov ← attributeBase (.Call (.Name "super" p0) [] [] p1) m (envF (supF name qual params body scope cc cda) f s.heap.objs.size) (eval (.Call (.Name "super" p0) [] [] p1) (envF (supF name qual params body scope cc cda) f s.heap.objs.size))
      standAt pa.atName
      let (fx, first) ← holding [ov] (getMethod ov m pl)
      callWith pc fx first (backTo pc (starEach (e :: es) (envF (supF name qual params body scope cc cda) f s.heap.objs.size))) []) := by rfl)
    (hsw : swapsWith (.Call (.Attribute (.Call (.Name "super" p0) [] [] p1) m pa) (e :: es) [] pc) (some (.Name x px)) ps0.line (envF (supF name qual params body scope cc cda) f s.heap.objs.size) = pure false := by rfl) :
    PySem.wpAt (model P w) (A.deeper (envF (supF name qual params body scope cc cda) f s.heap.objs.size)) (.func body (envF (supF name qual params body scope cc cda) f s.heap.objs.size)) (execs (.Assign [.Name x px] (.Call (.Attribute (.Call (.Name "super" p0) [] [] p1) m pa) (e :: es) [] pc) ps0 :: rest) (envF (supF name qual params body scope cc cda) f s.heap.objs.size)) (SP (ncx CX P w K mg base N (supF name qual params body scope cc cda) f A outer s H E) [] Dn) (ncx CX P w K mg base N (supF name qual params body scope cc cda) f A outer s H E).xe s1 := by
  refine PySem.ks_wpAt_execs_cons (PySem.ks_wpAt_Assign_Name (PySem.wpAt_mono (ev_supM T M hN hat F hrm hx ha I h hs hp hev) (fun u s2 hu => ?_) fun _ _ z => z) hsw)
  obtain ⟨v, H2, I2, r2, q⟩ := hu
  exact store_ok I2 nd hi (.inl hlx) r2 (fun s3 I3 => PySem.wpAt_of_wpAny (hr.run [] _ _ H2 Dn I3 q)) (.inr hlx)
end
section
variable {CX : CXT} {P : Program} {w : World} {K : PySem.W.Frag} {mg : Str → Option Value} {base : Heap}
/-- THE RULE for any def whose first act is super().m(..): its body by wp_supX, wp_supA or wp_supE -/
theorem fnM {file x qual : Str} {params : Arguments} {body : List Stmt} {scope : Scope} {dvs : List V} {kws : List (Str × V)} {f D : Addr} {fd : FuncData} {N ps : List Str} {sp : Sp} {k : Nat} {sf : Str}
    (F : FunS K file x qual params body scope dvs kws f D fd) (hfile : ((P.main.file : Str) == file) = true) (S : NScope N ps ["__class__"] scope) (hsup : mg "super" = none)
    (htop : (P.main.scope.names.lookup ("super" : Str)).isSome = false) (ks : scope.names.lookup ("super" : Str) = some .globalImplicit) (kc : scope.names.lookup ("__class__" : Str) = some .free) (ka : scope.names.lookup sf = some .local)
    (har : ∃ a : Arg, (params.posonlyargs ++ params.args).head? = some a ∧ a.arg = sf) (hcls : ∃ cd, PySem.W.clsIn K D = some cd) (len : ∀ vs H Q E, sp vs H Q E → vs.length = ps.length)
    (hbody : ∀ (cc cda : Addr) (A : Around) (outer : List Env) (s s1 : Shared) (H : Hp) (vs : List V) (Q : VK) (E : XK), SupT P K mg params scope f cc cda D sf → Room k (A.deeper (envF (supF x qual params body scope cc cda) f s.heap.objs.size)) → sp vs H Q E → Inv (ncx CX P w K mg base N (supF x qual params body scope cc cda) f A outer s H E) [] (startF N vs [none]) H s1 →
      PySem.wpAt (model P w) (A.deeper (envF (supF x qual params body scope cc cda) f s.heap.objs.size)) (.func body (envF (supF x qual params body scope cc cda) f s.heap.objs.size)) (execs body (envF (supF x qual params body scope cc cda) f s.heap.objs.size)) (SP (ncx CX P w K mg base N (supF x qual params body scope cc cda) f A outer s H E) [] { nx := fun _ H' => Q .non H', rt := Q }) (ncx CX P w K mg base N (supF x qual params body scope cc cda) f A outer s H E).xe s1) : FnOk P w K mg base CX (k + 1) f fd ps sp := by
  obtain ⟨oc, od, dV, kV, doc, pm, an, cc, cda, ct, osl, rfl, lk, hcd, _, _, hcell, ccl, cdd, vs0, ccs, tf, hcode, hvs⟩ := F.ex
  obtain ⟨cl0, cd0, cs0, hcell⟩ := hcell
  have T : SupT P K mg params scope f cc cda D sf := ⟨⟨oc, od, _, osl, lk, rfl⟩, har, ⟨ccl, cdd, vs0, ccs, file, tf, hcode, hvs, hfile⟩, ⟨cl0, cd0, cs0, hcell⟩, hcls, hsup, htop, ks, kc, ka⟩
  exact fnS_of lk hcd S hcell len fun A outer s s1 H vs Q E hr hsp I => hbody cc cda A outer s s1 H vs Q E T hr hsp I
end
end Cb

/-! len(set(t)) of a tuple of ints no two of which are alike -/
namespace Cb
open PySem PySem.Spec PyProof.Rows L2
theorem intsAre_t : ∀ {ns : List Int} {us : List Value}, Vals (ns.map V.int) us → PyProof.Rows.IntsAre us ns
  | [], _, .nil => .nil
  | n :: ns, _, .cons r t => by
    obtain ⟨k, rfl⟩ := r
    exact .cons n k (intsAre_t t)
def tLenSetT (K : PySem.W.Frag) (ta : TE) : TE := fun σ H Q => ta σ H fun x H1 => ∃ (l : Addr) (ns : List Int), x = V.ref l ∧ SqT K H1 l (ns.map V.int) ∧ ns.Nodup ∧ ns.length < 64 ∧ Q (.int ns.length) H1
theorem pe_lenSetT {X : Cx} {a : Expr} {ta : TE} {p p2 q pos : Pos} (hc : X.calm = true) (hg : Gl X "len") (hm : X.mg "len" = none) (hg2 : Gl X "set") (hm2 : X.mg "set" = none) (ha : PE X a ta)
    (na : starEach [a] X.env = (false, eval a X.env) :: starEach [] X.env := by rfl) : PE X (.Call (.Name "len" p) [.Call (.Name "set" p2) [a] [] q] [] pos) (tLenSetT X.K ta) := by
  refine ⟨fun pins s σ H Q I h => ?_⟩
  refine Call_ (ld_blt I hg hm PySem.boot_len ?_)
  refine PyProof.Rows.callWith_builtin1 (PyProof.Rows.args_cons ?_ rfl) rfl rfl
  refine Call_ (ld_blt I hg2 hm2 PyProof.Rows.boot_set ?_)
  refine PyProof.Rows.callWith_type1 (PyProof.Rows.args_cons (thn (ha.run pins s σ H _ I h) fun v s1 ⟨x, H1, I1, r1, q1⟩ => PyProof.Rows.args_nil ?_) na) na rfl
  obtain ⟨l, ns, rfl, hq, hnd, h1, q1⟩ := q1
  cases r1
  obtain ⟨its, r, pl, hz⟩ := I1.tuple hq
  refine call_set_tupI ns (I1.ok.hd hc) pl (by simpa using intsAre_t r) (by unfold scanBound; omega) fun h' tk c hS hle hk => ?_
  refine PyProof.Rows.args_nil ?_
  obtain ⟨o, es, ep, t, ho, hex, hd, hge, kn, km, hb, hf, hn, _⟩ := hS
  have pm : (es.toList.map keyOf).Perm ns := (List.perm_ext_iff_of_nodup kn hnd).mpr fun k => by
    rw [← km k]
    simp
  have hl : es.size = ns.length := by
    have z := pm.length_eq
    rw [List.length_map, Array.length_toList] at z
    exact z
  have I2 : Inv X pins σ H1 { s1 with heap := h', toks := tk } := I1.kept fun b o e => hk b o e
  exact call_len_set ho hex hd hf (by rw [hl]; omega) ⟨.int ns.length, H1, I2.tok _, ⟨_, by rw [hl]⟩, q1⟩
end Cb

/-! x, *r = t: of a tuple of one or more -/
namespace Cb
open PySem PySem.Spec PySem.Calls PyProof.Rows PySem.W
theorem star_items {prog : Program} {w : World} {A : Around} {E : Value → Shared → Prop} {s : Shared} {l : Addr} {items : Array Value} {n i : Nat} {first mids lasts : List Value} {Q : List Value → Shared → Prop} (hl : IsTup s.heap l items) (hh : A.handled = none) (hi : i < n) (hn : n ≤ items.size + 1) (hz : items.size ≤ 16384)
    (h1 : items.toList.take i = first) (h2 : (items.toList.drop i).take (items.size + 1 - n) = mids) (h3 : (items.toList.drop i).drop (items.size + 1 - n) = lasts)
    (h : ∀ (h' : Heap) (tk : Nat), (∀ b o, s.heap.get? b = some o → h'.get? b = some o) → Q (first ++ [.ref h'.objs.size] ++ lasts) { s with heap := h'.push { cls := .type "list", data := .seq mids.toArray }, toks := tk }) : wpAny (model prog w) A (unpackItems (.ref l) n (some i)) Q E s := by
  subst h1 h2 h3
  have hlt : l ≠ s.heap.objs.size := by obtain ⟨o, ho, _⟩ := hl; exact Nat.ne_of_lt (Heap.lt_size ho)
  have hll : l < s.heap.objs.size := by obtain ⟨o, ho, _⟩ := hl; exact Heap.lt_size ho
  unfold unpackItems
  refine wpAny_bind ?_
  unfold notIterableAtAll
  refine wpAny_bind (wpAny_specialOf hl.typeIs slot_tuple_iter.lookup ?_)
  refine wpAny_pure ?_
  simp only [Bool.false_eq_true, if_false]
  refine wpAny_bind (wpAny_holding (iter_tuple hl ?_))
  refine wpAny_bind (wpAny_holding (draw_tuple hlt i 0 _ _ ⟨_, Heap.get?_push_size _ rfl, rfl, rfl⟩ (hl.push _) (by omega) fun h₁ hit₁ hs₁ => ?_))
  have hl₁ : IsTup h₁ l items := (hl.push _).extBut hs₁.extBut hlt
  rw [Nat.zero_add] at hit₁
  have hit₁' := hit₁
  obtain ⟨oi, hoi, _⟩ := hit₁'
  have hl₁' := hl₁
  obtain ⟨ol, hol, _⟩ := hl₁'
  rw [List.drop_zero]
  have hfl : (items.toList.take i).length = i := by rw [List.length_take, Array.length_toList]; omega
  rw [if_neg (show ¬ ((items.toList.take i).length < i) by rw [hfl]; omega)]
  refine wpAny_bind (wpAny_holding (kun_collect (s := { s with heap := h₁ }) (T := "tuple_iterator") (.inr (.inr (.inr rfl))) (Walks.tuple (A := A.in1) hh s.heap.objs.size l hlt items) (fun j u st => st.1.typeIs) (k := i) (by omega) ⟨hit₁, hl₁⟩ (Heap.lt_size hoi) (Heap.lt_size hol) (fun h₂ tk hk => ?_) (by rw [sizeLine_eq]; omega)))
  have hrl : (items.toList.drop i).length = items.size - i := by rw [List.length_drop, Array.length_toList]
  have hmid : (items.toList.drop i).length - (n - 1 - i) = items.size + 1 - n := by rw [hrl]; omega
  show wpAny _ _ (if (items.toList.drop i).length < n - 1 - i then _ else _) _ _ _
  rw [if_neg (by rw [hrl]; omega)]
  show wpAny _ _ (newList ((items.toList.drop i).take ((items.toList.drop i).length - (n - 1 - i))) >>= fun d => pure (items.toList.take i ++ [d] ++ (items.toList.drop i).drop ((items.toList.drop i).length - (n - 1 - i)))) _ _ _
  rw [hmid]
  have he : ∀ b o, s.heap.get? b = some o → h₂.get? b = some o := fun b o e => hk b o (Nat.ne_of_lt (Heap.lt_size e)) (hs₁.extBut b o (Nat.ne_of_lt (Heap.lt_size e)) (Heap.get?_push_of_some _ e))
  exact wpAny_bind (wpAny_newList (s := { s with heap := h₂, toks := tk }) (wpAny_pure (h h₂ tk he)) (by rw [List.length_take, hrl, sizeLine_eq]; omega))
open L2
/-- x, *r = a tuple -/
def gStar1 (K : PySem.W.Frag) (t u : TG) : TG := fun v σ H Q => ∃ (a : Addr) (x : V) (xs : List V), v = .ref a ∧ SqT K H a (x :: xs) ∧ xs.length < 16000 ∧ ∀ D, H D = none → t x σ (upd H D (.lst xs)) fun σ1 H1 => u (.ref D) σ1 H1 Q
theorem pg_star1 {X : Cx} {e1 e2 : Expr} {k : Nat} {p pos : Pos} {t u : TG} (hc : X.calm = true) (h1 : PG X e1 t) (h2 : PG X e2 u)
    (hs : assignEach [e1, .Starred e2 p] X.env = [(false, assign e1 X.env), (true, assign e2 X.env)] := by rfl) : PG X (.Tuple [e1, .Starred e2 p] k pos) (gStar1 X.K t u) := by
  refine ⟨fun pins s σ H v w0 Q I r hw => ?_⟩
  obtain ⟨a, x, xs, rfl, hq, hl, hw⟩ := hw
  cases r
  obtain ⟨its, rv, ht, hz⟩ := I.tuple hq
  cases rv with
  | cons r1 rr =>
  rename_i y ys
  rw [assign_Tuple]
  refine wpAny_bind (wpAny_standAt ?_)
  unfold unpack
  rw [hs]
  have hlen := rr.length
  refine wpAny_bind (wpAny_holding (star_items (first := [y]) (mids := ys) (lasts := []) ht (I.ok.hd hc) (by simp) (by simp) (by simp; omega) rfl (by simp) (by simp) fun h' tk he => ?_))
  have I1 : Inv X pins σ H { s with heap := h', toks := tk } := I.kept he
  have I2 : Inv X pins σ (upd H h'.objs.size (.lst xs)) { s with heap := h'.push { cls := .type "list", data := .seq ys.toArray }, toks := tk } :=
    I1.laid (t' := tk) (fun b o e => Heap.get?_push_of_some _ e) (Nat.le_refl _) (show ObjOk X.prog X.w _ _ _ (.lst xs) from ⟨by rw [sizeLine_eq]; omega, ys, 0, rr, Heap.get?_push_size _ rfl⟩)
  refine assignInOrder_cons (thn (h1.run pins _ σ _ _ _ _ I2 r1 (hw _ (I1.hok.fresh (Nat.le_refl _)))) fun _ s1 ⟨σ1, H1, I3, q1⟩ => ?_)
  refine assignInOrder_cons (thn (h2.run pins _ σ1 _ (.ref _) _ _ I3 rfl q1) fun _ s2 ⟨σ2, H2, I4, q2⟩ => ?_)
  exact assignInOrder_nil ⟨σ2, H2, I4, q2⟩
end Cb

/-! min(xs) of a list of pairs of ints -/
namespace Cb
open PySem PySem.Spec PyProof.Rows L2
def IIAt (K : PySem.W.Frag) (H : Hp) (v : V) (p : Int × Int) : Prop := ∃ t, v = .ref t ∧ SqT K H t [.int p.1, .int p.2]
theorem IIAt.up {K : PySem.W.Frag} {H H' : Hp} {v : V} {p : Int × Int} (e : Same H H') (h : IIAt K H v p) : IIAt K H' v p := h.elim fun a z => ⟨a, z.1, Same.tup e z.2⟩
def rMinII (K : PySem.W.Frag) : List V → Hp → VK → Prop := fun vs H Q => ∃ (a : Addr) (xs : List V) (p : Int × Int) (ps : List (Int × Int)), vs = [.ref a] ∧ SqL K H a xs ∧ Paired (IIAt K H) xs (p :: ps) ∧ ∀ v ∈ xs, IIAt K H v (PySem.W.minOf p ps) → Q v H
theorem ii_tup {X : Cx} {pins : List (Addr × Obj)} {σ : L2.St} {H : Hp} {s : Shared} {t : Addr} {p : Int × Int} (I : Inv X pins σ H s) (h : SqT X.K H t [.int p.1, .int p.2]) : ∃ u w, s.heap.IsTuple t #[.int p.1 u, .int p.2 w] := by
  obtain ⟨its, rv, pl, _⟩ := I.tuple h
  cases rv with
  | cons r1 rr =>
    cases rr with
    | cons r2 r3 =>
      cases r3
      obtain ⟨u, rfl⟩ := r1
      obtain ⟨w, rfl⟩ := r2
      exact ⟨u, w, pl⟩
theorem ii_all {X : Cx} {pins : List (Addr × Obj)} {σ : L2.St} {H : Hp} {s : Shared} (I : Inv X pins σ H s) : ∀ {xs : List V} {ps : List (Int × Int)} {us : List Value}, Paired (IIAt X.K H) xs ps → Vals xs us → PySem.W.HoldAll s.heap us ps
  | _, _, _, .nil, .nil => PySem.W.HoldAll.nil
  | _, _, _, .cons ⟨t, e, ht⟩ q, .cons r rr => by
    subst e
    cases r
    obtain ⟨u, w, hi⟩ := ii_tup I ht
    exact .cons (PySem.W.holds_pair hi (PySem.W.holds_int _ _) (PySem.W.holds_int _ _)) (ii_all I q rr)
theorem rm_ii {u : Nat} (hu : u + 65 < cLine) : u + 1 + PySem.W.Datum.depth (Int × Int) < cLine := by
  have : PySem.W.Datum.depth (Int × Int) ≤ 60 := by decide
  omega
theorem cr_minII {X : Cx} (hc : X.calm = true) (hu : X.A.units + 65 < cLine) : CallR X (.builtin "min") (rMinII X.K) := by
  intro pins s σ H vs us Q I r h
  obtain ⟨a, xs, p, ps, rfl, hs, hp, q⟩ := h
  obtain ⟨its, rv, hl, _⟩ := I.list hs
  rw [Vals.ref1 r]
  refine PySem.W.min_list_datum (x := p) (xs := ps) (I.ok.hd hc) hl.isList (ii_all I hp rv) (rm_ii hu) fun i v h' tk hi hv hk => ?_
  have I2 : Inv X pins σ H { s with heap := h', toks := tk } := I.kept hk
  have hil : i < xs.length := by
    have z := rv.length
    have := (Array.getElem?_eq_some_iff.mp hi).1
    rw [List.size_toArray] at this
    omega
  obtain ⟨x, hx⟩ : ∃ x, xs[i]? = some x := ⟨_, List.getElem?_eq_getElem hil⟩
  obtain ⟨u, hu1, hr⟩ := rv.get hx
  have e : u = v := by
    rw [List.getElem?_toArray] at hi
    rw [hu1] at hi
    exact Option.some.inj hi
  subst e
  obtain ⟨pq, hpq, t, rfl, ht⟩ := pget hp hx
  cases hr
  obtain ⟨w1, w2, o, ho, _, n, hd⟩ := ii_tup I2 ht
  obtain ⟨l, b1, b2, el, ⟨o', ho', _, n', hd'⟩, g1, g2⟩ := PySem.W.pair_of_holds hv
  injection el with el
  subst el
  rw [ho] at ho'
  obtain rfl := Option.some.inj ho'
  rw [hd] at hd'
  injection hd' with e1 _
  have e3 : [Value.int pq.1 w1, Value.int pq.2 w2] = [b1, b2] := by simpa using congrArg Array.toList e1
  injection e3 with e4 e5
  injection e5 with e5 _
  subst e4 e5
  obtain ⟨t1, q1⟩ := PySem.W.int_of_holds g1
  obtain ⟨t2, q2⟩ := PySem.W.int_of_holds g2
  injection q1 with q1
  injection q2 with q2
  have em : pq = PySem.W.minOf p ps := Prod.ext q1 q2
  exact ⟨.ref t, H, I2, rfl, q _ (List.mem_of_getElem? hx) (em ▸ ⟨t, rfl, ht⟩)⟩
/-- the least of a list of pairs, by the first, then by the second -/
theorem minOf_mem (p : Int × Int) : ∀ ps : List (Int × Int), PySem.W.minOf p ps ∈ p :: ps := by
  intro ps
  unfold PySem.W.minOf
  induction ps generalizing p with
  | nil => exact List.mem_cons_self
  | cons y ys ih =>
    rw [List.foldl_cons]
    rcases List.mem_cons.mp (ih (if PySem.W.DatumOrd.lt y p = true then y else p)) with h | h
    · rw [h]
      split
      · exact List.mem_cons_of_mem _ List.mem_cons_self
      · exact List.mem_cons_self
    · exact List.mem_cons_of_mem _ (List.mem_cons_of_mem _ h)
end Cb

/-! set-ups with steps of all kinds, boards and processors: plain mirrors of what they hold, and what each deed makes of it -/
namespace Cb
open PySem PySem.Spec PyProof.Rows L2
abbrev aC (x : Str) (K : PySem.W.Frag) : Addr := He.ga K x
def letters (x : Str) : Bool := Txt.isascii x && (Txt.isalpha x && Txt.islower x)
def nameOk (x : Str) : Prop := x.length ≤ 8 ∧ letters x = true
def kindS (b : Bool) : Str := if b then "level" else "edge"
inductive SD where
  | run (n : Int)
  | ring (l : Str)
  | quiet (l : Str)
  | mask (l : Str)
  | unmask (l : Str)
  | setf (f : Nat)
  | clearf (f : Nat)
  | await (f : Nat)
  | bar (b : Int)
  | later (w : Str)
def SD.word : SD → Str
  | run _ => "run"
  | ring _ => "ring"
  | quiet _ => "quiet"
  | mask _ => "mask"
  | unmask _ => "unmask"
  | setf _ => "set"
  | clearf _ => "clear"
  | await _ => "await"
  | bar _ => "bar"
  | later _ => "later"
def SD.arg : SD → V
  | run n => .int n
  | ring l => .str l
  | quiet l => .str l
  | mask l => .str l
  | unmask l => .str l
  | setf f => .int (f : Nat)
  | clearf f => .int (f : Nat)
  | await f => .int (f : Nat)
  | bar b => .int b
  | later w => .str w
/-- a line at v: its name, level or edge, rank, steps -/
structure LineD where
  name : Str
  lvl : Bool
  rank : Int
  steps : List SD
structure WorkD where
  name : Str
  rank : Int
  ticks : Int
def StepOk (ls : List LineD) (ws : List WorkD) : SD → Prop
  | .run n => 1 ≤ n ∧ n ≤ 99
  | .ring l => ∃ x ∈ ls, x.name = l
  | .quiet l => ∃ x ∈ ls, x.name = l ∧ x.lvl = true
  | .mask l => ∃ x ∈ ls, x.name = l
  | .unmask l => ∃ x ∈ ls, x.name = l
  | .setf f => f ≤ 7
  | .clearf f => f ≤ 7
  | .await f => f ≤ 7
  | .bar b => 0 ≤ b ∧ b ≤ 9
  | .later w => ∃ x ∈ ws, x.name = w
def StepAt (K : PySem.W.Frag) (H : Hp) (v : V) (s : SD) : Prop := ∃ a, v = .ref a ∧ SqT K H a [.str s.word, s.arg]
def LineAt (K : PySem.W.Frag) (H : Hp) (v : V) (l : LineD) : Prop := ∃ a h hs, v = .ref a ∧ SqT K H a [.str l.name, .str (kindS l.lvl), .int l.rank, .ref h] ∧ SqT K H h hs ∧ Paired (StepAt K H) hs l.steps
def WorkAt (K : PySem.W.Frag) (H : Hp) (v : V) (w : WorkD) : Prop := ∃ a, v = .ref a ∧ SqT K H a [.str w.name, .int w.rank, .int w.ticks]
structure LineOk (l : LineD) : Prop where
  nm : nameOk l.name
  r1 : 1 ≤ l.rank
  r9 : l.rank ≤ 9
  s1 : 1 ≤ l.steps.length
  s8 : l.steps.length ≤ 8
structure WorkOk (w : WorkD) : Prop where
  nm : nameOk w.name
  r1 : 1 ≤ w.rank
  r9 : w.rank ≤ 9
  t1 : 1 ≤ w.ticks
  t99 : w.ticks ≤ 99
theorem StepAt.up {K : PySem.W.Frag} {H H' : Hp} {v : V} {s : SD} (e : Same H H') (h : StepAt K H v s) : StepAt K H' v s := h.elim fun a h => ⟨a, h.1, Same.tup e h.2⟩
theorem LineAt.up {K : PySem.W.Frag} {H H' : Hp} {v : V} {s : LineD} (e : Same H H') (h : LineAt K H v s) : LineAt K H' v s := by
  obtain ⟨a, g, hs, rfl, h1, h2, h3⟩ := h
  exact ⟨a, g, hs, rfl, Same.tup e h1, Same.tup e h2, h3.mono fun _ _ z => StepAt.up e z⟩
theorem WorkAt.up {K : PySem.W.Frag} {H H' : Hp} {v : V} {s : WorkD} (e : Same H H') (h : WorkAt K H v s) : WorkAt K H' v s := h.elim fun a h => ⟨a, h.1, Same.tup e h.2⟩
structure LinesAt (K : PySem.W.Frag) (H : Hp) (a : Addr) (ls : List LineD) : Prop where
  ex : ∃ xs, SqT K H a xs ∧ Paired (LineAt K H) xs ls
structure WorksAt (K : PySem.W.Frag) (H : Hp) (a : Addr) (ls : List WorkD) : Prop where
  ex : ∃ xs, SqT K H a xs ∧ Paired (WorkAt K H) xs ls
theorem LinesAt.up {K : PySem.W.Frag} {H H' : Hp} {a : Addr} {s : List LineD} (e : Same H H') (h : LinesAt K H a s) : LinesAt K H' a s := h.ex.elim fun xs h => ⟨xs, Same.tup e h.1, h.2.mono fun _ _ z => LineAt.up e z⟩
theorem WorksAt.up {K : PySem.W.Frag} {H H' : Hp} {a : Addr} {s : List WorkD} (e : Same H H') (h : WorksAt K H a s) : WorksAt K H' a s := h.ex.elim fun xs h => ⟨xs, Same.tup e h.1, h.2.mono fun _ _ z => WorkAt.up e z⟩
structure LsOk (ls : List LineD) : Prop where
  ok : ∀ l ∈ ls, LineOk l
  nd : (ls.map (·.name)).Nodup
  ne : ls ≠ []
  le : ls.length ≤ 12
structure WsOk (ls : List WorkD) : Prop where
  ok : ∀ l ∈ ls, WorkOk l
  nd : (ls.map (·.name)).Nodup
  le : ls.length ≤ 8
def AllOk (ls : List LineD) (ws : List WorkD) : Prop := ∀ l ∈ ls, ∀ s ∈ l.steps, StepOk ls ws s
theorem putK_le (kvs : List (Key × V)) (k : Key) (v : V) : (putK kvs k v).length ≤ kvs.length + 1 := by
  unfold putK
  split <;> simp
theorem sml {n m : Nat} (h : n ≤ m) (hm : m < 4096) : n < sizeLine := Nat.lt_of_lt_of_le (Nat.lt_of_le_of_lt h hm) (by decide)
theorem andT {a b : Bool} (h1 : a = true) (h2 : b = true) : (a && b) = true := by rw [h1, h2]; rfl
theorem putK_new {kvs : List (Key × V)} {k : Key} {v : V} (h : ∀ e ∈ kvs, e.1 ≠ k) : putK kvs k v = kvs ++ [(k, v)] := by
  unfold putK
  rw [if_neg]
  simp only [List.any_eq_true, decide_eq_true_eq, not_exists, not_and]
  exact fun e m => h e m
def keyOf (K' : Hp) : V → Int × Str
  | .ref t => match K' t with
    | some (.tup [.int i, .str s]) => (i, s)
    | _ => (0, "")
  | _ => (0, "")
theorem keyOf_at {K' : Hp} {t : Addr} {i : Int} {s : Str} (h : K' t = some (.tup [.int i, .str s])) : keyOf K' (.ref t) = (i, s) := by
  unfold keyOf
  simp [h]
def RankAt (K' : Hp) (v : V) (l : LineD) : Prop := ∃ t, v = .ref t ∧ K' t = some (.tup [.int (-l.rank), .str l.name])
theorem ranked_names {K' : Hp} : ∀ {acc : List V} {ls : List LineD}, Paired (RankAt K') acc ls → acc.map (fun v => (keyOf K' v).2) = ls.map (·.name)
  | _, _, .nil => rfl
  | _, _, .cons ⟨t, e, h⟩ p => by
    subst e
    rw [List.map_cons, List.map_cons, ranked_names p, keyOf_at h]
theorem ranked_mem {K' : Hp} {acc : List V} {ls : List LineD} (p : Paired (RankAt K') acc ls) {v : V} (m : v ∈ acc) : ∃ t i s, v = .ref t ∧ K' t = some (.tup [.int i, .str s]) ∧ keyOf K' v = (i, s) := by
  obtain ⟨i, hi⟩ := List.mem_iff_getElem?.mp m
  obtain ⟨l, _, t, rfl, h⟩ := pget p hi
  exact ⟨t, _, _, rfl, h, keyOf_at h⟩
structure SetD where
  ls : List LineD
  ws : List WorkD
  order : List Str
structure SetOk (S : SetD) : Prop where
  ok : LsOk S.ls
  okw : WsOk S.ws
  all : AllOk S.ls S.ws
  perm : S.order.Perm (S.ls.map (·.name))
  srt : S.order.Pairwise fun a b => ∀ la ∈ S.ls, ∀ lb ∈ S.ls, la.name = a → lb.name = b → lexIS (-lb.rank, lb.name) (-la.rank, la.name) = false
def byN (ls : List LineD) (xs : List V) : List (Key × V) := (ls.zip xs).map fun p => (.inr p.1.name, p.2)
theorem byN_at : ∀ {ls : List LineD} {xs : List V} {i : Nat} {l : LineD} {v : V}, (ls.map (·.name)).Nodup → ls[i]? = some l → xs[i]? = some v → valV (byN ls xs) (.inr l.name) = some v
  | [], _, i, _, _, _, h, _ => by simp at h
  | _ :: _, [], i, _, _, _, _, h => by simp at h
  | m :: ls, x :: xs, 0, l, v, nd, h, g => by
    simp at h g
    subst h g
    simp [byN, valV]
  | m :: ls, x :: xs, i + 1, l, v, nd, h, g => by
    simp at h g
    have nd2 := List.nodup_cons.mp nd
    have ne : m.name ≠ l.name := fun q => nd2.1 (by show m.name ∈ _; rw [q]; exact List.mem_map_of_mem (List.mem_of_getElem? h))
    have z := byN_at (xs := xs) nd2.2 h g
    unfold byN valV at z ⊢
    rw [List.zip_cons_cons, List.map_cons, List.find?_cons_of_neg (by simp [ne])]
    exact z
theorem byN_no {ls : List LineD} {xs : List V} {n : Str} (h : n ∉ ls.map (·.name)) : valV (byN ls xs) (.inr n) = none := by
  unfold valV byN
  rw [List.find?_eq_none.mpr]
  · rfl
  · intro e m
    obtain ⟨p, hp, rfl⟩ := List.mem_map.mp m
    have hp2 := (List.of_mem_zip hp).1
    simp only [decide_eq_true_eq]
    intro q
    injection q with q
    exact h (q ▸ List.mem_map_of_mem hp2)
theorem byN_snoc {ls : List LineD} {xs : List V} {i : Nat} {l : LineD} {v : V} (nd : (ls.map (·.name)).Nodup) (h : ls[i]? = some l) (g : xs[i]? = some v) : putK (byN (ls.take i) (xs.take i)) (.inr l.name) v = byN (ls.take (i + 1)) (xs.take (i + 1)) := by
  rw [putK_new, take_snoc h, take_snoc g]
  · unfold byN
    have e : (ls.take i).length = (xs.take i).length := by
      have h1 : i < ls.length := by
        rcases Nat.lt_or_ge i ls.length with z | z
        · exact z
        · rw [List.getElem?_eq_none z] at h; cases h
      have h2 : i < xs.length := by
        rcases Nat.lt_or_ge i xs.length with z | z
        · exact z
        · rw [List.getElem?_eq_none z] at g; cases g
      simp; omega
    rw [List.zip_append e]
    simp
  · intro e m q
    obtain ⟨p, hp, rfl⟩ := List.mem_map.mp m
    have hp2 := (List.of_mem_zip hp).1
    injection q with q
    have := nodup_take nd (i := i) (x := l.name) (by simp [h])
    rw [← List.map_take] at this
    exact this (q ▸ List.mem_map_of_mem hp2)
theorem ranked_key {K' : Hp} {acc : List V} {ls : List LineD} (p : Paired (RankAt K') acc ls) {v : V} (m : v ∈ acc) : ∃ l ∈ ls, keyOf K' v = (-l.rank, l.name) := by
  obtain ⟨i, hi⟩ := List.mem_iff_getElem?.mp m
  obtain ⟨l, hl, t, rfl, h⟩ := pget p hi
  exact ⟨l, List.mem_of_getElem? hl, keyOf_at h⟩
theorem nm_inj : ∀ {ls : List LineD}, (ls.map (·.name)).Nodup → ∀ {a b : LineD}, a ∈ ls → b ∈ ls → a.name = b.name → a = b
  | m :: ls, nd, a, b, ha, hb, e => by
    have n2 := List.nodup_cons.mp nd
    rcases List.mem_cons.mp ha with ea | ha
    · rcases List.mem_cons.mp hb with eb | hb
      · rw [ea, eb]
      · exact absurd (show m.name ∈ ls.map (·.name) by rw [← ea, e]; exact List.mem_map_of_mem hb) n2.1
    · rcases List.mem_cons.mp hb with eb | hb
      · exact absurd (show m.name ∈ ls.map (·.name) by rw [← eb, ← e]; exact List.mem_map_of_mem ha) n2.1
      · exact nm_inj n2.2 ha hb e
theorem srt_of {K' : Hp} {acc ys : List V} {ls : List LineD} (nd : (ls.map (·.name)).Nodup) (p : Paired (RankAt K') acc ls) (pm : ys.Perm acc) (sd : ys.Pairwise fun x y => lexIS (keyOf K' y) (keyOf K' x) = false) :
    (ys.map fun v => (keyOf K' v).2).Pairwise fun a b => ∀ la ∈ ls, ∀ lb ∈ ls, la.name = a → lb.name = b → lexIS (-lb.rank, lb.name) (-la.rank, la.name) = false := by
  rw [List.pairwise_map]
  refine sd.imp_of_mem fun {x y} hx hy h la hla lb hlb ea eb => ?_
  obtain ⟨lx, hlx, kx⟩ := ranked_key p (pm.mem_iff.mp hx)
  obtain ⟨ly, hly, ky⟩ := ranked_key p (pm.mem_iff.mp hy)
  rw [kx] at ea h
  rw [ky] at eb h
  have e1 := nm_inj nd hla hlx ea
  have e2 := nm_inj nd hlb hly eb
  subst e1 e2
  exact h
structure SetupAt (K : PySem.W.Frag) (H : Hp) (su : Addr) (S : SetD) : Prop where
  ex : ∃ dx la wa bn oa xs, H su = some (.ins (aC "Setup" K) dx [("_lines", .ref la), ("_works", .ref wa), ("_by_name", .ref bn), ("_order", .ref oa)]) ∧ LinesAt K H la S.ls ∧ WorksAt K H wa S.ws ∧ H bn = some (.dK (byN S.ls xs)) ∧ Paired (LineAt K H) xs S.ls ∧ H oa = some (.tup (S.order.map V.str))
theorem SetupAt.up {K : PySem.W.Frag} {H H' : Hp} {v : Addr} {s : SetD} (e : Same H H') (h : SetupAt K H v s) : SetupAt K H' v s := by
  obtain ⟨dx, la, wa, bn, oa, xs, h1, h2, h3, h4, h5, h6⟩ := h
  exact ⟨dx, la, wa, bn, oa, xs, e _ _ h1, LinesAt.up e h2, WorksAt.up e h3, e _ _ h4, h5.mono fun _ _ z => LineAt.up e z, e _ _ h6⟩
def bd (o : List Str) (f : Str → Bool) : List (Key × V) := o.map fun n => (.inr n, .bl (f n))
def fset (f : Str → Bool) (n : Str) (b : Bool) : Str → Bool := fun m => if m = n then b else f m
theorem bd_at {f : Str → Bool} {n : Str} : ∀ {o : List Str}, n ∈ o → valV (bd o f) (.inr n) = some (.bl (f n))
  | m :: o, h => by
    by_cases e : m = n
    · subst e
      simp [bd, valV]
    · have z := bd_at (f := f) (o := o) ((List.mem_cons.mp h).resolve_left fun q => e q.symm)
      unfold bd valV at z ⊢
      rw [List.map_cons, List.find?_cons_of_neg (by simp [e])]
      exact z
theorem putK_bd {f : Str → Bool} {n : Str} {b : Bool} {o : List Str} (h : n ∈ o) : putK (bd o f) (.inr n) (.bl b) = bd o (fset f n b) := by
  unfold putK
  rw [if_pos]
  · unfold bd fset
    rw [List.map_map]
    refine List.map_congr_left fun m _ => ?_
    by_cases e : m = n
    · subst e; simp
    · have e2 : ¬ (Sum.inr m : Key) = Sum.inr n := fun q => e (by injection q)
      simp [e, e2]
  · exact List.any_eq_true.mpr ⟨_, List.mem_map_of_mem h, by simp⟩
theorem bd_snoc {f : Str → Bool} {o : List Str} (nd : o.Nodup) {i : Nat} {n : Str} (h : o[i]? = some n) : putK (bd (o.take i) f) (.inr n) (.bl (f n)) = bd (o.take (i + 1)) f := by
  rw [take_snoc h, putK_new]
  · simp [bd]
  · intro e m q
    obtain ⟨k, hk, rfl⟩ := List.mem_map.mp m
    injection q with q
    exact nodup_take nd h (q ▸ hk)
def md (o : List Str) (f : Str → Int) : List (Key × V) := o.map fun n => (.inr n, .int (f n))
def nset (f : Str → Int) (n : Str) (b : Int) : Str → Int := fun m => if m = n then b else f m
theorem md_at {f : Str → Int} {n : Str} : ∀ {o : List Str}, n ∈ o → valV (md o f) (.inr n) = some (.int (f n))
  | m :: o, h => by
    by_cases e : m = n
    · subst e
      simp [md, valV]
    · have z := md_at (f := f) (o := o) ((List.mem_cons.mp h).resolve_left fun q => e q.symm)
      unfold md valV at z ⊢
      rw [List.map_cons, List.find?_cons_of_neg (by simp [e])]
      exact z
theorem putK_md {f : Str → Int} {n : Str} {b : Int} {o : List Str} (h : n ∈ o) : putK (md o f) (.inr n) (.int b) = md o (nset f n b) := by
  unfold putK
  rw [if_pos]
  · unfold md nset
    rw [List.map_map]
    refine List.map_congr_left fun m _ => ?_
    by_cases e : m = n
    · subst e; simp
    · have e2 : ¬ (Sum.inr m : Key) = Sum.inr n := fun q => e (by injection q)
      simp [e, e2]
  · exact List.any_eq_true.mpr ⟨_, List.mem_map_of_mem h, by simp⟩
theorem md_snoc {f : Str → Int} {o : List Str} (nd : o.Nodup) {i : Nat} {n : Str} (h : o[i]? = some n) : putK (md (o.take i) f) (.inr n) (.int (f n)) = md (o.take (i + 1)) f := by
  rw [take_snoc h, putK_new]
  · simp [md]
  · intro e m q
    obtain ⟨k, hk, rfl⟩ := List.mem_map.mp m
    injection q with q
    exact nodup_take nd h (q ▸ hk)
theorem SetOk.nd {S : SetD} (h : SetOk S) : S.order.Nodup := h.perm.nodup_iff.mpr h.ok.nd
theorem SetOk.mem {S : SetD} (h : SetOk S) {l : LineD} (m : l ∈ S.ls) : l.name ∈ S.order := h.perm.mem_iff.mpr (List.mem_map_of_mem m)
theorem SetOk.line {S : SetD} (h : SetOk S) {n : Str} (m : n ∈ S.order) : ∃ l ∈ S.ls, l.name = n := List.mem_map.mp (h.perm.mem_iff.mp m)
theorem SetOk.len {S : SetD} (h : SetOk S) : S.order.length ≤ 12 := by
  have z := h.perm.length_eq
  simp at z
  have := h.ok.le
  omega
def no : Str → Bool := fun _ => false
theorem filter_snoc {α : Type} {l : List α} {i : Nat} {x : α} (f : α → Bool) (h : l[i]? = some x) : (l.take (i + 1)).filter f = (l.take i).filter f ++ (if f x = true then [x] else []) := by
  rw [take_snoc h, List.filter_append]
  congr 1
  by_cases e : f x = true <;> simp [e]
def pd (r : Str × Int) : PyData := .tuple [.str r.1, .int r.2]
theorem pd_eq {a b : Str × Int} : PyData.eqv (pd a) (pd b) = decide (a = b) := by
  obtain ⟨a, i⟩ := a
  obtain ⟨b, j⟩ := b
  rw [Bool.eq_iff_iff]
  simp [pd, PyData.eqv, PyData.eqvAll]
theorem sok {x : Str} (h : nameOk x) : PyData.strOk x = true := by
  have z := h.2
  unfold letters at z
  have z1 := (He.ba z).1
  unfold Txt.isascii at z1
  unfold PyData.strOk
  rw [Array.all_eq_true] at z1 ⊢
  intro i hi
  have := z1 i hi
  simp at this ⊢
  omega
theorem pd_lay : ∀ {l : List (Str × Int)}, (∀ r ∈ l, nameOk r.1) → PyData.canLayAll0 (l.map pd) = true
  | [], _ => by simp [PyData.canLayAll0]
  | a :: l, h => by simp [PyData.canLayAll0, pd_lay fun r m => h r (List.mem_cons_of_mem _ m), pd, PyData.canLay0, sok (h a List.mem_cons_self)]
theorem pd_dep : ∀ l : List (Str × Int), PyData.depthAll (l.map pd) ≤ 2
  | [] => by simp [PyData.depthAll]
  | a :: l => by
    have := pd_dep l
    simp [PyData.depthAll, pd, PyData.depth]
    omega
theorem pd_sh {l : List (Str × Int)} (h : ∀ r ∈ l, nameOk r.1) : SeqAt.shaped (.list (l.map pd)) = true := by
  have := pd_dep l
  unfold SeqAt.shaped
  simp [PyData.canLay0, pd_lay h, PyData.depth]
  omega
theorem pd_sh1 {a : Str × Int} (h : nameOk a.1) : SeqAt.shaped (pd a) = true := by
  unfold SeqAt.shaped
  simp [pd, PyData.canLay0, PyData.canLayAll0, PyData.depth, PyData.depthAll, sok h]
def RowAt (K : PySem.W.Frag) (H : Hp) (v : V) (r : Str × Int) : Prop := ∃ t, v = .ref t ∧ SqT K H t [.str r.1, .int r.2]
theorem RowAt.up {K : PySem.W.Frag} {H H' : Hp} {v : V} {r : Str × Int} (e : Same H H') (h : RowAt K H v r) : RowAt K H' v r := h.elim fun a h => ⟨a, h.1, Same.tup e h.2⟩
theorem rows_dp {K : PySem.W.Frag} {H : Hp} : ∀ {rv : List V} {rows : List (Str × Int)}, Paired (RowAt K H) rv rows → DpAll K H rv (rows.map pd)
  | _, _, .nil => .nil
  | _, _, .cons ⟨t, e, h⟩ p => by
    subst e
    exact .cons (.tup h (.cons (.str _) (.cons (.int _) .nil))) (rows_dp p)
def wd (ws : List WorkD) (f : WorkD → Int) : List (Key × V) := ws.map fun w => (.inr w.name, .int (f w))
theorem wd_at {f : WorkD → Int} {l : WorkD} : ∀ {ws : List WorkD}, (ws.map (·.name)).Nodup → l ∈ ws → valV (wd ws f) (.inr l.name) = some (.int (f l))
  | m :: ws, nd, h => by
    have nd2 := List.nodup_cons.mp nd
    rcases List.mem_cons.mp h with e | h
    · subst e
      simp [wd, valV]
    · have ne : m.name ≠ l.name := fun q => nd2.1 (by show m.name ∈ _; rw [q]; exact List.mem_map_of_mem h)
      have z := wd_at (f := f) nd2.2 h
      unfold wd valV at z ⊢
      rw [List.map_cons, List.find?_cons_of_neg (by simp [ne])]
      exact z
theorem wd_snoc {f : WorkD → Int} {ws : List WorkD} (nd : (ws.map (·.name)).Nodup) {i : Nat} {l : WorkD} (h : ws[i]? = some l) : putK (wd (ws.take i) f) (.inr l.name) (.int (f l)) = wd (ws.take (i + 1)) f := by
  rw [take_snoc h, putK_new]
  · simp [wd]
  · intro e m q
    obtain ⟨k, hk, rfl⟩ := List.mem_map.mp m
    injection q with q
    have := nodup_take nd (i := i) (x := l.name) (by simp [h])
    rw [← List.map_take] at this
    exact this (q ▸ List.mem_map_of_mem hk)
theorem pdrop {α β : Type} {F : α → β → Prop} : ∀ {l₁ : List α} {l₂ : List β}, Paired F l₁ l₂ → ∀ n, Paired F (l₁.drop n) (l₂.drop n)
  | _, _, .nil, _ => by simpa using Paired.nil
  | _, _, .cons f p, 0 => .cons f p
  | _, _, .cons f p, n + 1 => pdrop p n
theorem any_pd (rows : List (Str × Int)) (a : Str × Int) : ((rows.map pd).any fun z => PyData.eqv z (pd a)) = decide (a ∈ rows) := by
  rw [Bool.eq_iff_iff, List.any_map]
  simp [pd_eq]
theorem hu65_of {k : Nat} {A : Around} (h : Room k A) : A.units + 65 < cLine := by
  have := h.un
  omega
theorem big63 {n : Nat} (h : n ≤ 4000) : (n : Int) < 2 ^ 63 := by
  have : (2 : Int) ^ 63 = 9223372036854775808 := by decide
  omega
theorem atI0 {v : V} {l : List V} : atI (v :: l) 0 = some v := by simp [atI, ixN]
theorem inV_strs {ws : List Str} {x : Str} (h : x ∈ ws) : inV (.str x) (ws.map V.str) = true := by
  unfold inV
  exact List.any_eq_true.mpr ⟨_, List.mem_map_of_mem h, by simp [eqV]⟩
theorem inV_not {ws : List Str} {x : Str} (h : x ∉ ws) : inV (.str x) (ws.map V.str) = false := by
  unfold inV
  refine List.any_eq_false.mpr fun y m => ?_
  obtain ⟨z, hz, rfl⟩ := List.mem_map.mp m
  simp only [eqV, beq_iff_eq]
  exact fun e => h (e ▸ hz)
theorem ixNm {v : V} {l : List V} : ixN (l ++ [v]).length (-1) = some l.length := by
  unfold ixN
  rw [if_neg (by decide), if_pos (by simp; omega)]
  simp
  omega
theorem set_last {α : Type} (l : List α) (x y : α) : (l ++ [x]).set l.length y = l ++ [y] := by
  rw [List.set_append_right _ _ (Nat.le_refl _)]
  simp
theorem cut2 {a b c d : V} : cutV [a, b, c, d] none (some 2) = [a, b] := by simp [cutV, HT.sIx]
theorem cut3 {a b c d : V} : cutV [a, b, c, d] none (some 3) = [a, b, c] := by simp [cutV, HT.sIx]
theorem pe_nev {X : Cx} {e : Expr} : PE X e (fun _ _ _ => False) := ⟨fun _ _ _ _ _ _ h => h.elim⟩
/-! what a house's board holds, and a processor -/
/-- what became of a ring -/
inductive FtD where
  | wait
  | merged (n : Option Nat)
  | served (t : Int) (p : Option Int)
structure BdD where
  lev : Str → Bool
  rung : Str → Bool
  dis : Str → Bool
  und : Str → Bool
  fl : List Bool
  mg : Str → Int
  tk : Int
  pl : Str → Option Int
  ow : Str → Option Int
  rg : List (Int × Str)
  fa : List FtD
  nu : Str → Option Nat
def oset {α : Type} (f : Str → Option α) (n : Str) (v : Option α) : Str → Option α := fun m => if m = n then v else f m
def optV : Option Int → V
  | none => .non
  | some i => .int i
def optN : Option Nat → V
  | none => .non
  | some i => .int (i : Nat)
def od (o : List Str) (f : Str → Option Int) : List (Key × V) := o.map fun n => (.inr n, optV (f n))
def onn (o : List Str) (f : Str → Option Nat) : List (Key × V) := o.map fun n => (.inr n, optN (f n))
theorem od_at {f : Str → Option Int} {n : Str} : ∀ {o : List Str}, n ∈ o → valV (od o f) (.inr n) = some (optV (f n))
  | m :: o, h => by
    by_cases e : m = n
    · subst e
      simp [od, valV]
    · have z := od_at (f := f) (o := o) ((List.mem_cons.mp h).resolve_left fun q => e q.symm)
      unfold od valV at z ⊢
      rw [List.map_cons, List.find?_cons_of_neg (by simp [e])]
      exact z
theorem putK_od {f : Str → Option Int} {n : Str} {b : Option Int} {o : List Str} (h : n ∈ o) : putK (od o f) (.inr n) (optV b) = od o (oset f n b) := by
  unfold putK
  rw [if_pos]
  · unfold od oset
    rw [List.map_map]
    refine List.map_congr_left fun m _ => ?_
    by_cases e : m = n
    · subst e; simp
    · have e2 : ¬ (Sum.inr m : Key) = Sum.inr n := fun q => e (by injection q)
      simp [e, e2]
  · exact List.any_eq_true.mpr ⟨_, List.mem_map_of_mem h, by simp⟩
theorem od_snoc {f : Str → Option Int} {o : List Str} (nd : o.Nodup) {i : Nat} {n : Str} (h : o[i]? = some n) : putK (od (o.take i) f) (.inr n) (optV (f n)) = od (o.take (i + 1)) f := by
  rw [take_snoc h, putK_new]
  · simp [od]
  · intro e m q
    obtain ⟨k, hk, rfl⟩ := List.mem_map.mp m
    injection q with q
    exact nodup_take nd h (q ▸ hk)
theorem on_at {f : Str → Option Nat} {n : Str} : ∀ {o : List Str}, n ∈ o → valV (onn o f) (.inr n) = some (optN (f n))
  | m :: o, h => by
    by_cases e : m = n
    · subst e
      simp [onn, valV]
    · have z := on_at (f := f) (o := o) ((List.mem_cons.mp h).resolve_left fun q => e q.symm)
      unfold onn valV at z ⊢
      rw [List.map_cons, List.find?_cons_of_neg (by simp [e])]
      exact z
theorem putK_on {f : Str → Option Nat} {n : Str} {b : Option Nat} {o : List Str} (h : n ∈ o) : putK (onn o f) (.inr n) (optN b) = onn o (oset f n b) := by
  unfold putK
  rw [if_pos]
  · unfold onn oset
    rw [List.map_map]
    refine List.map_congr_left fun m _ => ?_
    by_cases e : m = n
    · subst e; simp
    · have e2 : ¬ (Sum.inr m : Key) = Sum.inr n := fun q => e (by injection q)
      simp [e, e2]
  · exact List.any_eq_true.mpr ⟨_, List.mem_map_of_mem h, by simp⟩
theorem on_snoc {f : Str → Option Nat} {o : List Str} (nd : o.Nodup) {i : Nat} {n : Str} (h : o[i]? = some n) : putK (onn (o.take i) f) (.inr n) (optN (f n)) = onn (o.take (i + 1)) f := by
  rw [take_snoc h, putK_new]
  · simp [onn]
  · intro e m q
    obtain ⟨k, hk, rfl⟩ := List.mem_map.mp m
    injection q with q
    exact nodup_take nd h (q ▸ hk)
structure CallD where
  line : LineD
  step : Nat
  ticks : Int
  kept : Int
structure PrD where
  bar : Int
  stack : List CallD
  rows : List (Str × Int)
  c0 : Int
  c1 : Int
  c2 : Int
  c3 : Int
inductive Ev where
  | bgn (l : LineD)
  | fin (l : LineD)
  | dne (w : Str)
def Ev.word : Ev → Str
  | bgn _ => "begin"
  | fin _ => "end"
  | dne _ => "done"
def Ev.name : Ev → Str
  | bgn l => l.name
  | fin l => l.name
  | dne w => w
def ringB (b : BdD) (n : Str) : BdD := { b with rung := fset b.rung n true, mg := if b.rung n then nset b.mg n (b.mg n + 1) else b.mg, rg := if b.lev n then b.rg else b.rg ++ [(b.tk, n)], fa := if b.lev n then b.fa else b.fa ++ [if b.rung n then .merged (b.nu n) else .wait], nu := if b.lev n then b.nu else if b.rung n then b.nu else oset b.nu n (some b.rg.length) }
def quietB (b : BdD) (n : Str) : BdD := { b with rung := fset b.rung n false, pl := oset b.pl n none }
def maskB (b : BdD) (n : Str) (v : Bool) : BdD := { b with dis := fset b.dis n v }
def flagB (b : BdD) (f : Nat) (v : Bool) : BdD := { b with fl := b.fl.set f v }
def servedF (b : BdD) (n : Str) : List FtD := match b.nu n with
  | some k => b.fa.set k (.served b.tk (b.pl n))
  | none => b.fa
def beginB (b : BdD) (l : LineD) : BdD := { b with rung := (if l.lvl then b.rung else fset b.rung l.name false), und := fset b.und l.name true, fa := servedF b l.name, nu := oset b.nu l.name none, pl := oset b.pl l.name none, ow := oset b.ow l.name (b.pl l.name) }
def endB (b : BdD) (l : LineD) : BdD := { b with und := fset b.und l.name false, ow := oset b.ow l.name none }
/-- the numbers with which lines wait are those of rings -/
structure NuOk (b : BdD) : Prop where
  len : b.fa.length = b.rg.length
  lt : ∀ n k, b.nu n = some k → k < b.fa.length
def waitsB (b : BdD) (l : LineD) : Bool := b.rung l.name && (!l.lvl || !b.und l.name)
def readyB (b : BdD) (l : LineD) : Bool := waitsB b l && !b.dis l.name && !b.und l.name
/-- the lines in the order of their names in a set-up -/
def lineOf (S : SetD) (n : Str) : LineD := (S.ls.find? fun l => decide (l.name = n)).getD ⟨n, false, 0, []⟩
def linesO (S : SetD) : List LineD := S.order.map (lineOf S)
def rankOf (ws : List WorkD) (n : Str) : Int := ((ws.find? fun w => decide (w.name = n)).map (·.rank)).getD 0
def lenOf (ws : List WorkD) (n : Str) : Int := ((ws.find? fun w => decide (w.name = n)).map (·.ticks)).getD 0
def putR (ws : List WorkD) (rows : List (Str × Int)) (n : Str) (t : Int) : List (Str × Int) :=
  if t = 0 ∧ (n, 0) ∈ rows then rows else
    let k := (rows.filter fun r => decide (rankOf ws n ≤ rankOf ws r.1)).length
    rows.take k ++ [(n, t)] ++ rows.drop k
def takesNo (b : BdD) : SD → Bool
  | .run _ => false
  | .await f => b.fl.getD f false
  | _ => true
def actB (b : BdD) : SD → BdD
  | .ring l => ringB b l
  | .quiet l => quietB b l
  | .mask l => maskB b l true
  | .unmask l => maskB b l false
  | .setf f => flagB b f true
  | .clearf f => flagB b f false
  | _ => b
def actP (ws : List WorkD) (p : PrD) : SD → PrD
  | .bar x => { p with bar := x }
  | .later w => { p with rows := putR ws p.rows w 0 }
  | _ => p
/-- through steps that take no tick -/
def thru (ws : List WorkD) : List SD → Nat → BdD → PrD → Nat × BdD × PrD
  | [], j, b, p => (j, b, p)
  | st :: r, j, b, p => if takesNo b st = true then thru ws r (j + 1) (actB b st) (actP ws p st) else (j, b, p)
def goA (ws : List WorkD) (b : BdD) (p : PrD) : BdD × PrD × List Ev :=
  match p.stack.getLast? with
  | none => (b, p, [])
  | some c =>
    let z := thru ws (c.line.steps.drop c.step) c.step b { p with stack := p.stack.dropLast }
    if z.1 < c.line.steps.length then (z.2.1, { z.2.2 with stack := z.2.2.stack ++ [⟨c.line, z.1, c.ticks, c.kept⟩] }, []) else (endB z.2.1 c.line, { z.2.2 with bar := c.kept }, [.fin c.line])
def floorA (p : PrD) : Int := match p.stack.getLast? with
  | none => p.bar
  | some c => if c.line.rank > p.bar then c.line.rank else p.bar
def takeA (ws : List WorkD) (b : BdD) (p : PrD) (ls : List LineD) : BdD × PrD × List Ev :=
  match ls with
  | [] => (b, p, [])
  | l :: _ => if l.rank > floorA p then
      let z := goA ws (beginB b l) { p with stack := p.stack ++ [⟨l, 0, 0, p.bar⟩] }
      (z.1, z.2.1, .bgn l :: z.2.2) else (b, p, [])
def stepOf (c : CallD) : Option SD := c.line.steps[c.step]?
def passes (b : BdD) (p : PrD) : Bool := match p.stack.getLast? with
  | none => false
  | some c => match stepOf c with
    | some (.await f) => b.fl.getD f false
    | _ => false
def onA (ws : List WorkD) : Nat → BdD → PrD → BdD × PrD × List Ev
  | 0, b, p => (b, p, [])
  | n + 1, b, p => if passes b p = true then
      let z := goA ws b p
      let y := onA ws n z.1 z.2.1
      (y.1, y.2.1, z.2.2 ++ y.2.2) else (b, p, [])
def spendA (ws : List WorkD) (b : BdD) (p : PrD) : BdD × PrD × List Ev :=
  match p.stack.getLast? with
  | none => match p.rows with
    | [] => (b, { p with c3 := p.c3 + 1 }, [])
    | (n, t) :: r => if t + 1 < lenOf ws n then (b, { p with c2 := p.c2 + 1, rows := (n, t + 1) :: r }, []) else (b, { p with c2 := p.c2 + 1, rows := r }, [.dne n])
  | some c => match stepOf c with
    | some (.await _) => (b, { p with c1 := p.c1 + 1 }, [])
    | some (.run n) => if c.ticks + 1 < n then (b, { p with c0 := p.c0 + 1, stack := p.stack.dropLast ++ [⟨c.line, c.step, c.ticks + 1, c.kept⟩] }, [])
        else goA ws b { p with c0 := p.c0 + 1, stack := p.stack.dropLast ++ [⟨c.line, c.step + 1, 0, c.kept⟩] }
    | _ => (b, p, [])
def tickA (ws : List WorkD) (S : SetD) (b : BdD) (p : PrD) : BdD × PrD × List Ev :=
  let z := takeA ws b p ((linesO S).filter (readyB b))
  let y := onA ws z.2.1.stack.length z.1 z.2.1
  let x := spendA ws y.1 y.2.1
  (x.1, x.2.1, z.2.2 ++ (y.2.2 ++ x.2.2))
/-- a call rests at a step that takes ticks -/
structure CallOk (S : SetD) (c : CallD) : Prop where
  ln : c.line ∈ S.ls
  st : (∃ n, stepOf c = some (.run n) ∧ 0 ≤ c.ticks ∧ c.ticks < n) ∨ ∃ f, stepOf c = some (.await f) ∧ c.ticks = 0
def RowsOk (ws : List WorkD) (rows : List (Str × Int)) : Prop := ∀ r ∈ rows, ∃ w ∈ ws, w.name = r.1 ∧ 0 ≤ r.2 ∧ r.2 < w.ticks
structure PrOk (S : SetD) (p : PrD) : Prop where
  calls : ∀ c ∈ p.stack, CallOk S c
  rows : RowsOk S.ws p.rows
def FlOk (b : BdD) : Prop := b.fl.length = 8
end Cb

namespace Cb
open PySem PySem.Spec PyProof.Rows L2

def top (i : Nat) : Stmt := PySem.Challenge.pw_callbells_k65_whole_levels.main.body.getD i (.Pass ⟨0, 0, 0, 0⟩)
abbrev s_is_integer : Stmt := top 17
abbrev s_check_number : Stmt := top 18
abbrev s_is_letters : Stmt := top 19
abbrev s_is_name : Stmt := top 20
abbrev s_is_line : Stmt := top 21
abbrev s_is_work : Stmt := top 22
abbrev s_is_step : Stmt := top 23
abbrev s_spoilt_named : Stmt := top 24
abbrev s_spoilt_line : Stmt := top 25
abbrev s_spoilt_work : Stmt := top 26
abbrev s_spoilt_handler : Stmt := top 27
abbrev s_is_route : Stmt := top 30
abbrev s_spoilt_route : Stmt := top 31
abbrev s_Router_init : Stmt := inClass (top 32) 0
abbrev s_Router_choose : Stmt := inClass (top 32) 3
abbrev s_Router_turned : Stmt := inClass (top 32) 4
abbrev s_Setup_init : Stmt := inClass (top 34) 3
abbrev s_Setup_len : Stmt := inClass (top 34) 5
abbrev s_Setup_contains : Stmt := inClass (top 34) 6
abbrev s_Setup_getitem : Stmt := inClass (top 34) 7
abbrev s_Setup_lines : Stmt := inClass (top 34) 11
abbrev s_Setup_works : Stmt := inClass (top 34) 12
abbrev s_Setup_order : Stmt := inClass (top 34) 13
abbrev s_check_setup : Stmt := top 35
abbrev s_put_changed : Stmt := top 37
abbrev s_check_flag : Stmt := top 38
abbrev s_Board_init : Stmt := inClass (top 39) 0
abbrev s_Board_check_line : Stmt := inClass (top 39) 3
abbrev s_Board_is_edge : Stmt := inClass (top 39) 4
abbrev s_Board_ring : Stmt := inClass (top 39) 5
abbrev s_Board_quiet : Stmt := inClass (top 39) 6
abbrev s_Board_mask : Stmt := inClass (top 39) 7
abbrev s_Board_unmask : Stmt := inClass (top 39) 8
abbrev s_Board_set_flag : Stmt := inClass (top 39) 9
abbrev s_Board_clear_flag : Stmt := inClass (top 39) 10
abbrev s_Board_act : Stmt := inClass (top 39) 11
abbrev s_Board_begin : Stmt := inClass (top 39) 12
abbrev s_Board_end : Stmt := inClass (top 39) 13
abbrev s_Board_is_up : Stmt := inClass (top 39) 14
abbrev s_Board_is_enabled : Stmt := inClass (top 39) 15
abbrev s_Board_is_high : Stmt := inClass (top 39) 16
abbrev s_Board_waits : Stmt := inClass (top 39) 17
abbrev s_Board_waiting_lines : Stmt := inClass (top 39) 18
abbrev s_Board_ready_lines : Stmt := inClass (top 39) 19
abbrev s_Board_raised_flags : Stmt := inClass (top 39) 23
abbrev s_HouseBoard_init : Stmt := inClass (top 41) 0
abbrev s_HouseBoard_ring : Stmt := inClass (top 41) 2
abbrev s_HouseBoard_note_ring : Stmt := inClass (top 41) 3
abbrev s_HouseBoard_quiet : Stmt := inClass (top 41) 4
abbrev s_HouseBoard_begin : Stmt := inClass (top 41) 5
abbrev s_HouseBoard_end : Stmt := inClass (top 41) 6
abbrev s_HouseBoard_put_on : Stmt := inClass (top 41) 7
abbrev s_HouseBoard_pass_tick : Stmt := inClass (top 41) 9
abbrev s_HouseBoard_tick_number : Stmt := inClass (top 41) 10
abbrev s_HouseBoard_place_of : Stmt := inClass (top 41) 11
abbrev s_HouseBoard_owner_of : Stmt := inClass (top 41) 12
abbrev s_HouseBoard_lines_on : Stmt := inClass (top 41) 13
abbrev s_HouseBoard_ready_on : Stmt := inClass (top 41) 14
abbrev s_HouseBoard_unplaced_lines : Stmt := inClass (top 41) 15
abbrev s_HouseBoard_load_of : Stmt := inClass (top 41) 16
abbrev s_HouseBoard_ring_rows : Stmt := inClass (top 41) 17
abbrev s_HouseBoard_ring_fate : Stmt := inClass (top 41) 19
abbrev s_HouseBoard_all_fates : Stmt := inClass (top 41) 20
abbrev s_WorkQueue_init : Stmt := inClass (top 43) 0
abbrev s_WorkQueue_rows : Stmt := inClass (top 43) 2
abbrev s_WorkQueue_is_empty : Stmt := inClass (top 43) 3
abbrev s_WorkQueue_put : Stmt := inClass (top 43) 4
abbrev s_WorkQueue_drop_rows : Stmt := inClass (top 43) 5
abbrev s_WorkQueue_spend : Stmt := inClass (top 43) 6
abbrev s_Processor_init : Stmt := inClass (top 49) 0
abbrev s_Processor_take : Stmt := inClass (top 49) 2
abbrev s_Processor_go_on : Stmt := inClass (top 49) 3
abbrev s_Processor_bar_now : Stmt := inClass (top 49) 4
abbrev s_Processor_call_rows : Stmt := inClass (top 49) 5
abbrev s_Processor_work_rows : Stmt := inClass (top 49) 6
abbrev s_Processor_hand_over_works : Stmt := inClass (top 49) 7
abbrev s_Processor_lets_by : Stmt := inClass (top 49) 12
abbrev s_Processor_present_step : Stmt := inClass (top 49) 13
abbrev s_Processor_passes_flag : Stmt := inClass (top 49) 14
abbrev s_Processor_takes_no_tick : Stmt := inClass (top 49) 15
abbrev s_Processor_act : Stmt := inClass (top 49) 16
abbrev s_Processor_go_through : Stmt := inClass (top 49) 17
abbrev s_Processor_spend : Stmt := inClass (top 49) 18
abbrev s_Processor_spend_beside_calls : Stmt := inClass (top 49) 19
abbrev s_is_storm : Stmt := top 52
abbrev s_spoilt_storm : Stmt := top 53
abbrev s_StormWatch_init : Stmt := inClass (top 54) 0
abbrev s_StormWatch_note_begin : Stmt := inClass (top 54) 2
abbrev s_StormWatch_held_until : Stmt := inClass (top 54) 3
abbrev s_StormWatch_still_counted : Stmt := inClass (top 54) 4
abbrev s_House_init : Stmt := inClass (top 58) 0
abbrev s_House_len : Stmt := inClass (top 58) 3
abbrev s_House_contains : Stmt := inClass (top 58) 4
abbrev s_House_getitem : Stmt := inClass (top 58) 5
abbrev s_House_iter : Stmt := inClass (top 58) 6
abbrev s_House_call : Stmt := inClass (top 58) 7
abbrev s_House_rooms : Stmt := inClass (top 58) 11
abbrev s_House_ring : Stmt := inClass (top 58) 13
abbrev s_House_quiet : Stmt := inClass (top 58) 14
abbrev s_House_mask : Stmt := inClass (top 58) 15
abbrev s_House_unmask : Stmt := inClass (top 58) 16
abbrev s_House_set_flag : Stmt := inClass (top 58) 17
abbrev s_House_clear_flag : Stmt := inClass (top 58) 18
abbrev s_House_tick : Stmt := inClass (top 58) 22
abbrev s_House_ticks : Stmt := inClass (top 58) 23
abbrev s_House_fate : Stmt := inClass (top 58) 24
abbrev s_House_setup : Stmt := inClass (top 58) 26
abbrev s_House_routes : Stmt := inClass (top 58) 28
abbrev s_House_storms : Stmt := inClass (top 58) 29
abbrev s_House_now : Stmt := inClass (top 58) 30
abbrev s_House_begin_counts : Stmt := inClass (top 58) 32
abbrev s_House_rings : Stmt := inClass (top 58) 35
abbrev s_House_check_line : Stmt := inClass (top 58) 36
abbrev s_House_check_processor : Stmt := inClass (top 58) 37
abbrev s_House_running : Stmt := inClass (top 58) 38
abbrev s_House_line_row : Stmt := inClass (top 58) 39
abbrev s_House_place : Stmt := inClass (top 58) 40
abbrev s_House_place_lines : Stmt := inClass (top 58) 41
abbrev s_House_note_events : Stmt := inClass (top 58) 42
abbrev s_House_let_go_off : Stmt := inClass (top 58) 43
abbrev s_House_move_works : Stmt := inClass (top 58) 44
abbrev s_check_house : Stmt := top 59
abbrev s_law_taken : Stmt := top 61
abbrev s_law : Stmt := top 62
def prA (C f : Str) (K : PySem.W.Frag) : Addr := match PySem.W.findIn K (.ref (He.ga K C)) f with
  | some (some (.ref p)) => (match PySem.W.recIn K p "property" with
    | some (.ref g :: _) => g
    | _ => 0)
  | _ => 0
def argL : List (Str × He.Dv) := [("run", .str "ticks"), ("ring", .str "line"), ("quiet", .str "level"), ("mask", .str "line"), ("unmask", .str "line"), ("set", .str "flag"), ("clear", .str "flag"), ("await", .str "flag"), ("bar", .str "bar"), ("later", .str "work")]
def tupAtB (K : PySem.W.Frag) (a : Addr) (vs : List He.Dv) : Bool := match K.lookup a with
  | some ⟨.type c, _, .seq its _, _⟩ => decide (c = "tuple") && (decide (its.size ≤ sizeLine) && He.relAll (vs.map (He.Dv.v K)) its.toList)
  | _ => false
theorem tupAtB_ok {K : PySem.W.Frag} {a : Addr} {vs : List He.Dv} (h : tupAtB K a vs = true) (H : Hp) : SqT K H a (vs.map (He.Dv.v K)) := by
  unfold tupAtB at h
  cases q : K.lookup a with
  | none =>
    rw [q] at h
    cases h
  | some o =>
    obtain ⟨oc, od, dt, osl⟩ := o
    rw [q] at h
    cases oc with
    | type c =>
      cases dt with
      | seq its n =>
        obtain ⟨h1, h2⟩ := He.ba (show (decide (c = "tuple") && (decide (its.size ≤ sizeLine) && He.relAll (vs.map (He.Dv.v K)) its.toList)) = true from h)
        obtain ⟨h3, h4⟩ := He.ba h2
        exact .inr ⟨_, its, n, q, congrArg Value.type (of_decide_eq_true h1), rfl, of_decide_eq_true h3, He.relAll_ok h4⟩
      | _ => cases h
    | _ => cases dt <;> cases h
theorem int_rel {mg : Str → Option Value} {x : Str} {i : Int} (h : ∃ t, mg x = some (.int i t)) : ∃ u, mg x = some u ∧ RelV (.int i) u := let ⟨t, e⟩ := h; ⟨_, e, t, rfl⟩
def propB (K : PySem.W.Frag) (C f : Str) : Bool := match PySem.W.findIn K (.ref (aC C K)) f with
  | some (some (.ref p)) => He.eqO (PySem.W.specialIn K (.ref p) "__get__") (some (some (.builtin "property.__get__"))) && (decide (PySem.W.takesIn K (.ref p) = some true) && (match PySem.W.recIn K p "property" with
    | some (.ref g :: _) => decide (g = prA C f K)
    | _ => false))
  | _ => false
theorem propB_ok {K : PySem.W.Frag} {C f : Str} (h : propB K C f = true) : ∃ p, PropOf K (aC C K) f p (prA C f K) := by
  unfold propB at h
  cases e : PySem.W.findIn K (.ref (aC C K)) f with
  | none => rw [e] at h; cases h
  | some r => cases r with
    | none => rw [e] at h; cases h
    | some v => cases v with
      | ref p =>
        rw [e] at h
        obtain ⟨h1, h⟩ := He.ba h
        obtain ⟨h2, h3⟩ := He.ba h
        refine ⟨p, e, He.eqO_ok h1, of_decide_eq_true h2, ?_⟩
        cases q : PySem.W.recIn K p "property" with
        | none => rw [q] at h3; cases h3
        | some l => cases l with
          | nil => rw [q] at h3; cases h3
          | cons g r => cases g with
            | ref g =>
              rw [q] at h3
              exact ⟨r, by rw [show g = prA C f K from of_decide_eq_true h3]⟩
            | _ => rw [q] at h3; cases h3
      | _ => rw [e] at h; cases h
def creadB (K : PySem.W.Frag) (C : Addr) : Bool := PySem.W.readsIn K C (.type "type") && He.eqO (PySem.W.specialIn K (.ref C) "__getattribute__") (some (some (.builtin "type.__getattribute__")))
theorem creadB_ok {K : PySem.W.Frag} {C : Addr} (h : creadB K C = true) : ClX.CRead K C (.type "type") := ⟨(He.ba h).1, He.eqO_ok (He.ba h).2⟩
def cvalB (K : PySem.W.Frag) (C : Addr) (f : Str) (i : Int) : Bool := match PySem.W.findCls K (.ref C) (.type "type") f with
  | some (.val (.int j _)) => decide (j = i)
  | _ => false
theorem cvalB_ok {K : PySem.W.Frag} {C : Addr} {f : Str} {i : Int} (h : cvalB K C f i = true) : ∃ u, ClX.CVal K C (.type "type") f (.int i) u := by
  unfold cvalB at h
  split at h
  · rename_i j t e
    obtain rfl : j = i := of_decide_eq_true h
    exact ⟨_, e, t, rfl⟩
  · cases h
/-- the default of a keyword-only parameter -/
def kwAt (f : Addr) (x : Str) (K : PySem.W.Frag) : Addr := match K.lookup f with
  | some ⟨_, _, .func fd, _⟩ => (match fd.kwdefaults with
    | .ref D => (match PySem.W.nsIn K D x with
      | some (some (.ref a)) => a
      | _ => 0)
    | _ => 0)
  | _ => 0
theorem meth_as {K : PySem.W.Frag} {x y m : Str} (h : ((He.Fa.meth x m).ok K && decide (He.ma K (aC x K) m = He.ma K (aC y K) m)) = true) : Meth K (aC x K) m (He.ma K (aC y K) m) := by
  obtain ⟨h1, h2⟩ := He.ba h
  rw [← of_decide_eq_true h2]
  exact He.meth_ok h1
structure Txt (K : PySem.W.Frag) (mg : Str → Option Value) : Prop where
  n_len : mg "len" = none
  n_isinstance : mg "isinstance" = none
  n_enumerate : mg "enumerate" = none
  n_range : mg "range" = none
  n_tuple : mg "tuple" = none
  n_list : mg "list" = none
  n_dict : mg "dict" = none
  n_sorted : mg "sorted" = none
  n_all : mg "all" = none
  n_sum : mg "sum" = none
  n_max : mg "max" = none
  n_int : mg "int" = none
  n_bool : mg "bool" = none
  n_str : mg "str" = none
  n_min : mg "min" = none
  n_set : mg "set" = none
  k_MAX_LETTERS : ∃ u, mg "MAX_LETTERS" = some u ∧ RelV (.int 8) u
  k_MAX_RANK : ∃ u, mg "MAX_RANK" = some u ∧ RelV (.int 9) u
  k_MAX_STEPS : ∃ u, mg "MAX_STEPS" = some u ∧ RelV (.int 8) u
  k_MAX_TICKS : ∃ u, mg "MAX_TICKS" = some u ∧ RelV (.int 99) u
  k_CALLED : ∃ u, mg "CALLED" = some u ∧ RelV (.int 0) u
  k_SPUN : ∃ u, mg "SPUN" = some u ∧ RelV (.int 1) u
  k_WORKED : ∃ u, mg "WORKED" = some u ∧ RelV (.int 2) u
  k_IDLE : ∃ u, mg "IDLE" = some u ∧ RelV (.int 3) u
  k_MOST_TICKS : ∃ u, mg "MOST_TICKS" = some u ∧ RelV (.int 10000) u
  k_MAX_STORM : ∃ u, mg "MAX_STORM" = some u ∧ RelV (.int 99) u
  k_MAX_PROCESSORS : ∃ u, mg "MAX_PROCESSORS" = some u ∧ RelV (.int 6) u
  k_KINDS : ∃ u, mg "KINDS" = some u ∧ RelV (.ref (He.ga K "KINDS")) u
  v_KINDS : ∀ H, SqT K H (He.ga K "KINDS") [.str "edge", .str "level"]
  k_RULES : ∃ u, mg "RULES" = some u ∧ RelV (.ref (He.ga K "RULES")) u
  v_RULES : ∀ H, SqT K H (He.ga K "RULES") [.str "first", .str "least", .str "turn"]
  k_ARGUMENTS : ∃ u, mg "ARGUMENTS" = some u ∧ RelV (.ref (He.ga K "ARGUMENTS")) u
  v_ARGUMENTS : He.valsB K (He.ga K "ARGUMENTS") argL = true
  f_is_integer : mg "is_integer" = some (.ref (He.ga K "is_integer"))
  f_check_number : mg "check_number" = some (.ref (He.ga K "check_number"))
  f_is_letters : mg "is_letters" = some (.ref (He.ga K "is_letters"))
  f_is_name : mg "is_name" = some (.ref (He.ga K "is_name"))
  f_is_line : mg "is_line" = some (.ref (He.ga K "is_line"))
  f_is_work : mg "is_work" = some (.ref (He.ga K "is_work"))
  f_is_step : mg "is_step" = some (.ref (He.ga K "is_step"))
  f_spoilt_named : mg "spoilt_named" = some (.ref (He.ga K "spoilt_named"))
  f_spoilt_line : mg "spoilt_line" = some (.ref (He.ga K "spoilt_line"))
  f_spoilt_work : mg "spoilt_work" = some (.ref (He.ga K "spoilt_work"))
  f_spoilt_handler : mg "spoilt_handler" = some (.ref (He.ga K "spoilt_handler"))
  f_is_route : mg "is_route" = some (.ref (He.ga K "is_route"))
  f_spoilt_route : mg "spoilt_route" = some (.ref (He.ga K "spoilt_route"))
  f_check_setup : mg "check_setup" = some (.ref (He.ga K "check_setup"))
  f_put_changed : mg "put_changed" = some (.ref (He.ga K "put_changed"))
  f_check_flag : mg "check_flag" = some (.ref (He.ga K "check_flag"))
  f_is_storm : mg "is_storm" = some (.ref (He.ga K "is_storm"))
  f_spoilt_storm : mg "spoilt_storm" = some (.ref (He.ga K "spoilt_storm"))
  f_check_house : mg "check_house" = some (.ref (He.ga K "check_house"))
  f__law_taken : mg "_law_taken" = some (.ref (He.ga K "_law_taken"))
  f_law : mg "law" = some (.ref (He.ga K "law"))
  g_Setup : mg "Setup" = some (.ref (aC "Setup" K))
  cl_Setup : Cls K (aC "Setup" K)
  mk_Setup : Mk K (aC "Setup" K) (He.ma K (aC "Setup" K) "__init__")
  t_Setup_lines : NoAttr K (aC "Setup" K) "_lines"
  t_Setup_works : NoAttr K (aC "Setup" K) "_works"
  t_Setup_by_name : NoAttr K (aC "Setup" K) "_by_name"
  t_Setup_order : NoAttr K (aC "Setup" K) "_order"
  g_Router : mg "Router" = some (.ref (aC "Router" K))
  cl_Router : Cls K (aC "Router" K)
  mk_Router : Mk K (aC "Router" K) (He.ma K (aC "Router" K) "__init__")
  t_Router_rules : NoAttr K (aC "Router" K) "_rules"
  t_Router_stops : NoAttr K (aC "Router" K) "_stops"
  t_Router_turns : NoAttr K (aC "Router" K) "_turns"
  g_Board : mg "Board" = some (.ref (aC "Board" K))
  cl_Board : Cls K (aC "Board" K)
  mk_Board : Mk K (aC "Board" K) (He.ma K (aC "Board" K) "__init__")
  t_Board_setup : NoAttr K (aC "Board" K) "_setup"
  t_Board_rung : NoAttr K (aC "Board" K) "_rung"
  t_Board_disabled : NoAttr K (aC "Board" K) "_disabled"
  t_Board_under_way : NoAttr K (aC "Board" K) "_under_way"
  t_Board_flags : NoAttr K (aC "Board" K) "_flags"
  t_Board_merges : NoAttr K (aC "Board" K) "_merges"
  g_HouseBoard : mg "HouseBoard" = some (.ref (aC "HouseBoard" K))
  cl_HouseBoard : Cls K (aC "HouseBoard" K)
  mk_HouseBoard : Mk K (aC "HouseBoard" K) (He.ma K (aC "HouseBoard" K) "__init__")
  t_HouseBoard_setup : NoAttr K (aC "HouseBoard" K) "_setup"
  t_HouseBoard_rung : NoAttr K (aC "HouseBoard" K) "_rung"
  t_HouseBoard_disabled : NoAttr K (aC "HouseBoard" K) "_disabled"
  t_HouseBoard_under_way : NoAttr K (aC "HouseBoard" K) "_under_way"
  t_HouseBoard_flags : NoAttr K (aC "HouseBoard" K) "_flags"
  t_HouseBoard_merges : NoAttr K (aC "HouseBoard" K) "_merges"
  t_HouseBoard_tick : NoAttr K (aC "HouseBoard" K) "_tick"
  t_HouseBoard_places : NoAttr K (aC "HouseBoard" K) "_places"
  t_HouseBoard_owners : NoAttr K (aC "HouseBoard" K) "_owners"
  t_HouseBoard_rings : NoAttr K (aC "HouseBoard" K) "_rings"
  t_HouseBoard_fates : NoAttr K (aC "HouseBoard" K) "_fates"
  t_HouseBoard_numbers : NoAttr K (aC "HouseBoard" K) "_numbers"
  g_WorkQueue : mg "WorkQueue" = some (.ref (aC "WorkQueue" K))
  cl_WorkQueue : Cls K (aC "WorkQueue" K)
  mk_WorkQueue : Mk K (aC "WorkQueue" K) (He.ma K (aC "WorkQueue" K) "__init__")
  t_WorkQueue_ranks : NoAttr K (aC "WorkQueue" K) "_ranks"
  t_WorkQueue_lengths : NoAttr K (aC "WorkQueue" K) "_lengths"
  t_WorkQueue_rows : NoAttr K (aC "WorkQueue" K) "_rows"
  g_Processor : mg "Processor" = some (.ref (aC "Processor" K))
  cl_Processor : Cls K (aC "Processor" K)
  mk_Processor : Mk K (aC "Processor" K) (He.ma K (aC "Processor" K) "__init__")
  t_Processor_setup : NoAttr K (aC "Processor" K) "_setup"
  t_Processor_board : NoAttr K (aC "Processor" K) "_board"
  t_Processor_bar : NoAttr K (aC "Processor" K) "_bar"
  t_Processor_stack : NoAttr K (aC "Processor" K) "_stack"
  t_Processor_jobs : NoAttr K (aC "Processor" K) "_jobs"
  t_Processor_counts : NoAttr K (aC "Processor" K) "_counts"
  g_StormWatch : mg "StormWatch" = some (.ref (aC "StormWatch" K))
  cl_StormWatch : Cls K (aC "StormWatch" K)
  mk_StormWatch : Mk K (aC "StormWatch" K) (He.ma K (aC "StormWatch" K) "__init__")
  t_StormWatch_storms : NoAttr K (aC "StormWatch" K) "_storms"
  t_StormWatch_counted : NoAttr K (aC "StormWatch" K) "_counted"
  t_StormWatch_until : NoAttr K (aC "StormWatch" K) "_until"
  g_House : mg "House" = some (.ref (aC "House" K))
  cl_House : Cls K (aC "House" K)
  mk_House : Mk K (aC "House" K) (He.ma K (aC "House" K) "__init__")
  t_House_setup : NoAttr K (aC "House" K) "_setup"
  t_House_count : NoAttr K (aC "House" K) "_count"
  t_House_routes : NoAttr K (aC "House" K) "_routes"
  t_House_storms : NoAttr K (aC "House" K) "_storms"
  t_House_board : NoAttr K (aC "House" K) "_board"
  t_House_router : NoAttr K (aC "House" K) "_router"
  t_House_watch : NoAttr K (aC "House" K) "_watch"
  t_House_states : NoAttr K (aC "House" K) "_states"
  t_House_processors : NoAttr K (aC "House" K) "_processors"
  t_House_begin_totals : NoAttr K (aC "House" K) "_begin_totals"
  t_House_done_totals : NoAttr K (aC "House" K) "_done_totals"
  t_House_events : NoAttr K (aC "House" K) "_events"
  m_Router_choose : Meth K (aC "Router" K) "choose" (He.ma K (aC "Router" K) "choose")
  m_Router_turned : Meth K (aC "Router" K) "_turned" (He.ma K (aC "Router" K) "_turned")
  m_Setup_len : Meth K (aC "Setup" K) "__len__" (He.ma K (aC "Setup" K) "__len__")
  m_Setup_contains : Meth K (aC "Setup" K) "__contains__" (He.ma K (aC "Setup" K) "__contains__")
  m_Setup_getitem : Meth K (aC "Setup" K) "__getitem__" (He.ma K (aC "Setup" K) "__getitem__")
  m_Board_check_line : Meth K (aC "Board" K) "_check_line" (He.ma K (aC "Board" K) "_check_line")
  m_Board_is_edge : Meth K (aC "Board" K) "_is_edge" (He.ma K (aC "Board" K) "_is_edge")
  m_Board_ring : Meth K (aC "Board" K) "ring" (He.ma K (aC "Board" K) "ring")
  m_Board_quiet : Meth K (aC "Board" K) "quiet" (He.ma K (aC "Board" K) "quiet")
  m_Board_mask : Meth K (aC "Board" K) "mask" (He.ma K (aC "Board" K) "mask")
  m_Board_unmask : Meth K (aC "Board" K) "unmask" (He.ma K (aC "Board" K) "unmask")
  m_Board_set_flag : Meth K (aC "Board" K) "set_flag" (He.ma K (aC "Board" K) "set_flag")
  m_Board_clear_flag : Meth K (aC "Board" K) "clear_flag" (He.ma K (aC "Board" K) "clear_flag")
  m_Board_act : Meth K (aC "Board" K) "act" (He.ma K (aC "Board" K) "act")
  m_Board_begin : Meth K (aC "Board" K) "begin" (He.ma K (aC "Board" K) "begin")
  m_Board_end : Meth K (aC "Board" K) "end" (He.ma K (aC "Board" K) "end")
  m_Board_is_up : Meth K (aC "Board" K) "is_up" (He.ma K (aC "Board" K) "is_up")
  m_Board_is_enabled : Meth K (aC "Board" K) "is_enabled" (He.ma K (aC "Board" K) "is_enabled")
  m_Board_is_high : Meth K (aC "Board" K) "is_high" (He.ma K (aC "Board" K) "is_high")
  m_Board_waits : Meth K (aC "Board" K) "waits" (He.ma K (aC "Board" K) "waits")
  m_Board_waiting_lines : Meth K (aC "Board" K) "waiting_lines" (He.ma K (aC "Board" K) "waiting_lines")
  m_Board_ready_lines : Meth K (aC "Board" K) "ready_lines" (He.ma K (aC "Board" K) "ready_lines")
  m_Board_raised_flags : Meth K (aC "Board" K) "raised_flags" (He.ma K (aC "Board" K) "raised_flags")
  m_HouseBoard_ring : Meth K (aC "HouseBoard" K) "ring" (He.ma K (aC "HouseBoard" K) "ring")
  m_HouseBoard_note_ring : Meth K (aC "HouseBoard" K) "_note_ring" (He.ma K (aC "HouseBoard" K) "_note_ring")
  m_HouseBoard_quiet : Meth K (aC "HouseBoard" K) "quiet" (He.ma K (aC "HouseBoard" K) "quiet")
  m_HouseBoard_begin : Meth K (aC "HouseBoard" K) "begin" (He.ma K (aC "HouseBoard" K) "begin")
  m_HouseBoard_end : Meth K (aC "HouseBoard" K) "end" (He.ma K (aC "HouseBoard" K) "end")
  m_HouseBoard_put_on : Meth K (aC "HouseBoard" K) "put_on" (He.ma K (aC "HouseBoard" K) "put_on")
  m_HouseBoard_pass_tick : Meth K (aC "HouseBoard" K) "pass_tick" (He.ma K (aC "HouseBoard" K) "pass_tick")
  m_HouseBoard_tick_number : Meth K (aC "HouseBoard" K) "tick_number" (He.ma K (aC "HouseBoard" K) "tick_number")
  m_HouseBoard_place_of : Meth K (aC "HouseBoard" K) "place_of" (He.ma K (aC "HouseBoard" K) "place_of")
  m_HouseBoard_owner_of : Meth K (aC "HouseBoard" K) "owner_of" (He.ma K (aC "HouseBoard" K) "owner_of")
  m_HouseBoard_lines_on : Meth K (aC "HouseBoard" K) "lines_on" (He.ma K (aC "HouseBoard" K) "lines_on")
  m_HouseBoard_ready_on : Meth K (aC "HouseBoard" K) "ready_on" (He.ma K (aC "HouseBoard" K) "ready_on")
  m_HouseBoard_unplaced_lines : Meth K (aC "HouseBoard" K) "unplaced_lines" (He.ma K (aC "HouseBoard" K) "unplaced_lines")
  m_HouseBoard_load_of : Meth K (aC "HouseBoard" K) "load_of" (He.ma K (aC "HouseBoard" K) "load_of")
  m_HouseBoard_ring_rows : Meth K (aC "HouseBoard" K) "ring_rows" (He.ma K (aC "HouseBoard" K) "ring_rows")
  m_HouseBoard_ring_fate : Meth K (aC "HouseBoard" K) "ring_fate" (He.ma K (aC "HouseBoard" K) "ring_fate")
  m_HouseBoard_all_fates : Meth K (aC "HouseBoard" K) "all_fates" (He.ma K (aC "HouseBoard" K) "all_fates")
  m_WorkQueue_rows : Meth K (aC "WorkQueue" K) "rows" (He.ma K (aC "WorkQueue" K) "rows")
  m_WorkQueue_is_empty : Meth K (aC "WorkQueue" K) "is_empty" (He.ma K (aC "WorkQueue" K) "is_empty")
  m_WorkQueue_put : Meth K (aC "WorkQueue" K) "put" (He.ma K (aC "WorkQueue" K) "put")
  m_WorkQueue_drop_rows : Meth K (aC "WorkQueue" K) "drop_rows" (He.ma K (aC "WorkQueue" K) "drop_rows")
  m_WorkQueue_spend : Meth K (aC "WorkQueue" K) "spend" (He.ma K (aC "WorkQueue" K) "spend")
  m_Processor_take : Meth K (aC "Processor" K) "take" (He.ma K (aC "Processor" K) "take")
  m_Processor_go_on : Meth K (aC "Processor" K) "go_on" (He.ma K (aC "Processor" K) "go_on")
  m_Processor_bar_now : Meth K (aC "Processor" K) "bar_now" (He.ma K (aC "Processor" K) "bar_now")
  m_Processor_call_rows : Meth K (aC "Processor" K) "call_rows" (He.ma K (aC "Processor" K) "call_rows")
  m_Processor_work_rows : Meth K (aC "Processor" K) "work_rows" (He.ma K (aC "Processor" K) "work_rows")
  m_Processor_hand_over_works : Meth K (aC "Processor" K) "hand_over_works" (He.ma K (aC "Processor" K) "hand_over_works")
  m_Processor_lets_by : Meth K (aC "Processor" K) "_lets_by" (He.ma K (aC "Processor" K) "_lets_by")
  m_Processor_present_step : Meth K (aC "Processor" K) "_present_step" (He.ma K (aC "Processor" K) "_present_step")
  m_Processor_passes_flag : Meth K (aC "Processor" K) "_passes_flag" (He.ma K (aC "Processor" K) "_passes_flag")
  m_Processor_takes_no_tick : Meth K (aC "Processor" K) "_takes_no_tick" (He.ma K (aC "Processor" K) "_takes_no_tick")
  m_Processor_act : Meth K (aC "Processor" K) "_act" (He.ma K (aC "Processor" K) "_act")
  m_Processor_go_through : Meth K (aC "Processor" K) "_go_through" (He.ma K (aC "Processor" K) "_go_through")
  m_Processor_spend : Meth K (aC "Processor" K) "_spend" (He.ma K (aC "Processor" K) "_spend")
  m_Processor_spend_beside_calls : Meth K (aC "Processor" K) "_spend_beside_calls" (He.ma K (aC "Processor" K) "_spend_beside_calls")
  m_StormWatch_note_begin : Meth K (aC "StormWatch" K) "note_begin" (He.ma K (aC "StormWatch" K) "note_begin")
  m_StormWatch_held_until : Meth K (aC "StormWatch" K) "held_until" (He.ma K (aC "StormWatch" K) "held_until")
  m_StormWatch_still_counted : Meth K (aC "StormWatch" K) "_still_counted" (He.ma K (aC "StormWatch" K) "_still_counted")
  m_House_len : Meth K (aC "House" K) "__len__" (He.ma K (aC "House" K) "__len__")
  m_House_contains : Meth K (aC "House" K) "__contains__" (He.ma K (aC "House" K) "__contains__")
  m_House_getitem : Meth K (aC "House" K) "__getitem__" (He.ma K (aC "House" K) "__getitem__")
  m_House_iter : Meth K (aC "House" K) "__iter__" (He.ma K (aC "House" K) "__iter__")
  m_House_call : Meth K (aC "House" K) "__call__" (He.ma K (aC "House" K) "__call__")
  m_House_rooms : Meth K (aC "House" K) "_rooms" (He.ma K (aC "House" K) "_rooms")
  m_House_ring : Meth K (aC "House" K) "ring" (He.ma K (aC "House" K) "ring")
  m_House_quiet : Meth K (aC "House" K) "quiet" (He.ma K (aC "House" K) "quiet")
  m_House_mask : Meth K (aC "House" K) "mask" (He.ma K (aC "House" K) "mask")
  m_House_unmask : Meth K (aC "House" K) "unmask" (He.ma K (aC "House" K) "unmask")
  m_House_set_flag : Meth K (aC "House" K) "set_flag" (He.ma K (aC "House" K) "set_flag")
  m_House_clear_flag : Meth K (aC "House" K) "clear_flag" (He.ma K (aC "House" K) "clear_flag")
  m_House_tick : Meth K (aC "House" K) "tick" (He.ma K (aC "House" K) "tick")
  m_House_ticks : Meth K (aC "House" K) "ticks" (He.ma K (aC "House" K) "ticks")
  m_House_fate : Meth K (aC "House" K) "fate" (He.ma K (aC "House" K) "fate")
  m_House_check_line : Meth K (aC "House" K) "_check_line" (He.ma K (aC "House" K) "_check_line")
  m_House_check_processor : Meth K (aC "House" K) "_check_processor" (He.ma K (aC "House" K) "_check_processor")
  m_House_running : Meth K (aC "House" K) "_running" (He.ma K (aC "House" K) "_running")
  m_House_line_row : Meth K (aC "House" K) "_line_row" (He.ma K (aC "House" K) "_line_row")
  m_House_place : Meth K (aC "House" K) "_place" (He.ma K (aC "House" K) "_place")
  m_House_place_lines : Meth K (aC "House" K) "_place_lines" (He.ma K (aC "House" K) "_place_lines")
  m_House_note_events : Meth K (aC "House" K) "_note_events" (He.ma K (aC "House" K) "_note_events")
  m_House_let_go_off : Meth K (aC "House" K) "_let_go_off" (He.ma K (aC "House" K) "_let_go_off")
  m_House_move_works : Meth K (aC "House" K) "_move_works" (He.ma K (aC "House" K) "_move_works")
  p_Setup_lines : ∃ p, PropOf K (aC "Setup" K) "lines" p (prA "Setup" "lines" K)
  p_Setup_works : ∃ p, PropOf K (aC "Setup" K) "works" p (prA "Setup" "works" K)
  p_Setup_order : ∃ p, PropOf K (aC "Setup" K) "order" p (prA "Setup" "order" K)
  p_House_setup : ∃ p, PropOf K (aC "House" K) "setup" p (prA "House" "setup" K)
  p_House_routes : ∃ p, PropOf K (aC "House" K) "routes" p (prA "House" "routes" K)
  p_House_storms : ∃ p, PropOf K (aC "House" K) "storms" p (prA "House" "storms" K)
  p_House_now : ∃ p, PropOf K (aC "House" K) "now" p (prA "House" "now" K)
  p_House_begin_counts : ∃ p, PropOf K (aC "House" K) "begin_counts" p (prA "House" "begin_counts" K)
  p_House_rings : ∃ p, PropOf K (aC "House" K) "rings" p (prA "House" "rings" K)
  r_Setup : ClX.CRead K (aC "Setup" K) (.type "type")
  c_Setup_MAX_LINES : ∃ u, ClX.CVal K (aC "Setup" K) (.type "type") "MAX_LINES" (.int 12) u
  c_Setup_MAX_WORKS : ∃ u, ClX.CVal K (aC "Setup" K) (.type "type") "MAX_WORKS" (.int 8) u
  c_Setup_MAX_FLAG : ∃ u, ClX.CVal K (aC "Setup" K) (.type "type") "MAX_FLAG" (.int 7) u
  d_Setup : ∀ H, SqT K H (He.dflAt ("Setup", some "__init__") 0 K) []
  i_getitem : PySem.W.fnIn K (He.ma K (aC "Setup" K) "__getitem__") = true
  ty_HB : PySem.W.typeIn K (.ref (aC "HouseBoard" K)) = some (.type "type")
  n_super : mg "super" = none
  mr_HB : PySem.W.mroIn K (aC "HouseBoard" K) (.ref (aC "HouseBoard" K)) = some true
  op_any : PySem.W.nsIn K PySem.cStatics "thirdparty.any" = some none
  kw_routes : ∀ H, SqT K H (kwAt (He.ma K (aC "House" K) "__init__") "routes" K) []
  kw_storms : ∀ H, SqT K H (kwAt (He.ma K (aC "House" K) "__init__") "storms" K) []
  sm_init : PySem.W.ks_superIn K (aC "HouseBoard" K) (aC "HouseBoard" K) "__init__" = some (some (.ref (He.ma K (aC "Board" K) "__init__")))
  sm_ring : PySem.W.ks_superIn K (aC "HouseBoard" K) (aC "HouseBoard" K) "ring" = some (some (.ref (He.ma K (aC "Board" K) "ring")))
  sm_quiet : PySem.W.ks_superIn K (aC "HouseBoard" K) (aC "HouseBoard" K) "quiet" = some (some (.ref (He.ma K (aC "Board" K) "quiet")))
  sm_begin : PySem.W.ks_superIn K (aC "HouseBoard" K) (aC "HouseBoard" K) "begin" = some (some (.ref (He.ma K (aC "Board" K) "begin")))
  sm_end : PySem.W.ks_superIn K (aC "HouseBoard" K) (aC "HouseBoard" K) "end" = some (some (.ref (He.ma K (aC "Board" K) "end")))
  h_check_line : Meth K (aC "HouseBoard" K) "_check_line" (He.ma K (aC "Board" K) "_check_line")
  h_is_edge : Meth K (aC "HouseBoard" K) "_is_edge" (He.ma K (aC "Board" K) "_is_edge")
  h_mask : Meth K (aC "HouseBoard" K) "mask" (He.ma K (aC "Board" K) "mask")
  h_unmask : Meth K (aC "HouseBoard" K) "unmask" (He.ma K (aC "Board" K) "unmask")
  h_set_flag : Meth K (aC "HouseBoard" K) "set_flag" (He.ma K (aC "Board" K) "set_flag")
  h_clear_flag : Meth K (aC "HouseBoard" K) "clear_flag" (He.ma K (aC "Board" K) "clear_flag")
  h_act : Meth K (aC "HouseBoard" K) "act" (He.ma K (aC "Board" K) "act")
  h_is_up : Meth K (aC "HouseBoard" K) "is_up" (He.ma K (aC "Board" K) "is_up")
  h_is_enabled : Meth K (aC "HouseBoard" K) "is_enabled" (He.ma K (aC "Board" K) "is_enabled")
  h_is_high : Meth K (aC "HouseBoard" K) "is_high" (He.ma K (aC "Board" K) "is_high")
  h_waits : Meth K (aC "HouseBoard" K) "waits" (He.ma K (aC "Board" K) "waits")
  h_waiting_lines : Meth K (aC "HouseBoard" K) "waiting_lines" (He.ma K (aC "Board" K) "waiting_lines")
  h_ready_lines : Meth K (aC "HouseBoard" K) "ready_lines" (He.ma K (aC "Board" K) "ready_lines")
  h_disabled_lines : Meth K (aC "HouseBoard" K) "disabled_lines" (He.ma K (aC "Board" K) "disabled_lines")
  h_high_lines : Meth K (aC "HouseBoard" K) "high_lines" (He.ma K (aC "Board" K) "high_lines")
  h_raised_flags : Meth K (aC "HouseBoard" K) "raised_flags" (He.ma K (aC "Board" K) "raised_flags")
def exL (K : PySem.W.Frag) : List Bool := [(He.Fa.free "len").ok K,
  (He.Fa.free "isinstance").ok K,
  (He.Fa.free "enumerate").ok K,
  (He.Fa.free "range").ok K,
  (He.Fa.free "tuple").ok K,
  (He.Fa.free "list").ok K,
  (He.Fa.free "dict").ok K,
  (He.Fa.free "sorted").ok K,
  (He.Fa.free "all").ok K,
  (He.Fa.free "sum").ok K,
  (He.Fa.free "max").ok K,
  (He.Fa.free "int").ok K,
  (He.Fa.free "bool").ok K,
  (He.Fa.free "str").ok K,
  (He.Fa.free "min").ok K,
  (He.Fa.free "set").ok K,
  (He.Fa.int "MAX_LETTERS" 8).ok K,
  (He.Fa.int "MAX_RANK" 9).ok K,
  (He.Fa.int "MAX_STEPS" 8).ok K,
  (He.Fa.int "MAX_TICKS" 99).ok K,
  (He.Fa.int "CALLED" 0).ok K,
  (He.Fa.int "SPUN" 1).ok K,
  (He.Fa.int "WORKED" 2).ok K,
  (He.Fa.int "IDLE" 3).ok K,
  (He.Fa.int "MOST_TICKS" 10000).ok K,
  (He.Fa.int "MAX_STORM" 99).ok K,
  (He.Fa.int "MAX_PROCESSORS" 6).ok K,
  (He.Fa.glo "KINDS").ok K,
  He.tupB K "KINDS" [.str "edge", .str "level"],
  (He.Fa.glo "RULES").ok K,
  He.tupB K "RULES" [.str "first", .str "least", .str "turn"],
  (He.Fa.glo "ARGUMENTS").ok K,
  He.valsB K (He.ga K "ARGUMENTS") argL,
  (He.Fa.glo "is_integer").ok K,
  (He.Fa.glo "check_number").ok K,
  (He.Fa.glo "is_letters").ok K,
  (He.Fa.glo "is_name").ok K,
  (He.Fa.glo "is_line").ok K,
  (He.Fa.glo "is_work").ok K,
  (He.Fa.glo "is_step").ok K,
  (He.Fa.glo "spoilt_named").ok K,
  (He.Fa.glo "spoilt_line").ok K,
  (He.Fa.glo "spoilt_work").ok K,
  (He.Fa.glo "spoilt_handler").ok K,
  (He.Fa.glo "is_route").ok K,
  (He.Fa.glo "spoilt_route").ok K,
  (He.Fa.glo "check_setup").ok K,
  (He.Fa.glo "put_changed").ok K,
  (He.Fa.glo "check_flag").ok K,
  (He.Fa.glo "is_storm").ok K,
  (He.Fa.glo "spoilt_storm").ok K,
  (He.Fa.glo "check_house").ok K,
  (He.Fa.glo "_law_taken").ok K,
  (He.Fa.glo "law").ok K,
  (He.Fa.glo "Setup").ok K,
  (He.Fa.cls "Setup").ok K,
  (He.Fa.mkr "Setup").ok K,
  (He.Fa.noat "Setup" "_lines").ok K,
  (He.Fa.noat "Setup" "_works").ok K,
  (He.Fa.noat "Setup" "_by_name").ok K,
  (He.Fa.noat "Setup" "_order").ok K,
  (He.Fa.glo "Router").ok K,
  (He.Fa.cls "Router").ok K,
  (He.Fa.mkr "Router").ok K,
  (He.Fa.noat "Router" "_rules").ok K,
  (He.Fa.noat "Router" "_stops").ok K,
  (He.Fa.noat "Router" "_turns").ok K,
  (He.Fa.glo "Board").ok K,
  (He.Fa.cls "Board").ok K,
  (He.Fa.mkr "Board").ok K,
  (He.Fa.noat "Board" "_setup").ok K,
  (He.Fa.noat "Board" "_rung").ok K,
  (He.Fa.noat "Board" "_disabled").ok K,
  (He.Fa.noat "Board" "_under_way").ok K,
  (He.Fa.noat "Board" "_flags").ok K,
  (He.Fa.noat "Board" "_merges").ok K,
  (He.Fa.glo "HouseBoard").ok K,
  (He.Fa.cls "HouseBoard").ok K,
  (He.Fa.mkr "HouseBoard").ok K,
  (He.Fa.noat "HouseBoard" "_setup").ok K,
  (He.Fa.noat "HouseBoard" "_rung").ok K,
  (He.Fa.noat "HouseBoard" "_disabled").ok K,
  (He.Fa.noat "HouseBoard" "_under_way").ok K,
  (He.Fa.noat "HouseBoard" "_flags").ok K,
  (He.Fa.noat "HouseBoard" "_merges").ok K,
  (He.Fa.noat "HouseBoard" "_tick").ok K,
  (He.Fa.noat "HouseBoard" "_places").ok K,
  (He.Fa.noat "HouseBoard" "_owners").ok K,
  (He.Fa.noat "HouseBoard" "_rings").ok K,
  (He.Fa.noat "HouseBoard" "_fates").ok K,
  (He.Fa.noat "HouseBoard" "_numbers").ok K,
  (He.Fa.glo "WorkQueue").ok K,
  (He.Fa.cls "WorkQueue").ok K,
  (He.Fa.mkr "WorkQueue").ok K,
  (He.Fa.noat "WorkQueue" "_ranks").ok K,
  (He.Fa.noat "WorkQueue" "_lengths").ok K,
  (He.Fa.noat "WorkQueue" "_rows").ok K,
  (He.Fa.glo "Processor").ok K,
  (He.Fa.cls "Processor").ok K,
  (He.Fa.mkr "Processor").ok K,
  (He.Fa.noat "Processor" "_setup").ok K,
  (He.Fa.noat "Processor" "_board").ok K,
  (He.Fa.noat "Processor" "_bar").ok K,
  (He.Fa.noat "Processor" "_stack").ok K,
  (He.Fa.noat "Processor" "_jobs").ok K,
  (He.Fa.noat "Processor" "_counts").ok K,
  (He.Fa.glo "StormWatch").ok K,
  (He.Fa.cls "StormWatch").ok K,
  (He.Fa.mkr "StormWatch").ok K,
  (He.Fa.noat "StormWatch" "_storms").ok K,
  (He.Fa.noat "StormWatch" "_counted").ok K,
  (He.Fa.noat "StormWatch" "_until").ok K,
  (He.Fa.glo "House").ok K,
  (He.Fa.cls "House").ok K,
  (He.Fa.mkr "House").ok K,
  (He.Fa.noat "House" "_setup").ok K,
  (He.Fa.noat "House" "_count").ok K,
  (He.Fa.noat "House" "_routes").ok K,
  (He.Fa.noat "House" "_storms").ok K,
  (He.Fa.noat "House" "_board").ok K,
  (He.Fa.noat "House" "_router").ok K,
  (He.Fa.noat "House" "_watch").ok K,
  (He.Fa.noat "House" "_states").ok K,
  (He.Fa.noat "House" "_processors").ok K,
  (He.Fa.noat "House" "_begin_totals").ok K,
  (He.Fa.noat "House" "_done_totals").ok K,
  (He.Fa.noat "House" "_events").ok K,
  (He.Fa.meth "Router" "choose").ok K,
  (He.Fa.meth "Router" "_turned").ok K,
  (He.Fa.meth "Setup" "__len__").ok K,
  (He.Fa.meth "Setup" "__contains__").ok K,
  (He.Fa.meth "Setup" "__getitem__").ok K,
  (He.Fa.meth "Board" "_check_line").ok K,
  (He.Fa.meth "Board" "_is_edge").ok K,
  (He.Fa.meth "Board" "ring").ok K,
  (He.Fa.meth "Board" "quiet").ok K,
  (He.Fa.meth "Board" "mask").ok K,
  (He.Fa.meth "Board" "unmask").ok K,
  (He.Fa.meth "Board" "set_flag").ok K,
  (He.Fa.meth "Board" "clear_flag").ok K,
  (He.Fa.meth "Board" "act").ok K,
  (He.Fa.meth "Board" "begin").ok K,
  (He.Fa.meth "Board" "end").ok K,
  (He.Fa.meth "Board" "is_up").ok K,
  (He.Fa.meth "Board" "is_enabled").ok K,
  (He.Fa.meth "Board" "is_high").ok K,
  (He.Fa.meth "Board" "waits").ok K,
  (He.Fa.meth "Board" "waiting_lines").ok K,
  (He.Fa.meth "Board" "ready_lines").ok K,
  (He.Fa.meth "Board" "raised_flags").ok K,
  (He.Fa.meth "HouseBoard" "ring").ok K,
  (He.Fa.meth "HouseBoard" "_note_ring").ok K,
  (He.Fa.meth "HouseBoard" "quiet").ok K,
  (He.Fa.meth "HouseBoard" "begin").ok K,
  (He.Fa.meth "HouseBoard" "end").ok K,
  (He.Fa.meth "HouseBoard" "put_on").ok K,
  (He.Fa.meth "HouseBoard" "pass_tick").ok K,
  (He.Fa.meth "HouseBoard" "tick_number").ok K,
  (He.Fa.meth "HouseBoard" "place_of").ok K,
  (He.Fa.meth "HouseBoard" "owner_of").ok K,
  (He.Fa.meth "HouseBoard" "lines_on").ok K,
  (He.Fa.meth "HouseBoard" "ready_on").ok K,
  (He.Fa.meth "HouseBoard" "unplaced_lines").ok K,
  (He.Fa.meth "HouseBoard" "load_of").ok K,
  (He.Fa.meth "HouseBoard" "ring_rows").ok K,
  (He.Fa.meth "HouseBoard" "ring_fate").ok K,
  (He.Fa.meth "HouseBoard" "all_fates").ok K,
  (He.Fa.meth "WorkQueue" "rows").ok K,
  (He.Fa.meth "WorkQueue" "is_empty").ok K,
  (He.Fa.meth "WorkQueue" "put").ok K,
  (He.Fa.meth "WorkQueue" "drop_rows").ok K,
  (He.Fa.meth "WorkQueue" "spend").ok K,
  (He.Fa.meth "Processor" "take").ok K,
  (He.Fa.meth "Processor" "go_on").ok K,
  (He.Fa.meth "Processor" "bar_now").ok K,
  (He.Fa.meth "Processor" "call_rows").ok K,
  (He.Fa.meth "Processor" "work_rows").ok K,
  (He.Fa.meth "Processor" "hand_over_works").ok K,
  (He.Fa.meth "Processor" "_lets_by").ok K,
  (He.Fa.meth "Processor" "_present_step").ok K,
  (He.Fa.meth "Processor" "_passes_flag").ok K,
  (He.Fa.meth "Processor" "_takes_no_tick").ok K,
  (He.Fa.meth "Processor" "_act").ok K,
  (He.Fa.meth "Processor" "_go_through").ok K,
  (He.Fa.meth "Processor" "_spend").ok K,
  (He.Fa.meth "Processor" "_spend_beside_calls").ok K,
  (He.Fa.meth "StormWatch" "note_begin").ok K,
  (He.Fa.meth "StormWatch" "held_until").ok K,
  (He.Fa.meth "StormWatch" "_still_counted").ok K,
  (He.Fa.meth "House" "__len__").ok K,
  (He.Fa.meth "House" "__contains__").ok K,
  (He.Fa.meth "House" "__getitem__").ok K,
  (He.Fa.meth "House" "__iter__").ok K,
  (He.Fa.meth "House" "__call__").ok K,
  (He.Fa.meth "House" "_rooms").ok K,
  (He.Fa.meth "House" "ring").ok K,
  (He.Fa.meth "House" "quiet").ok K,
  (He.Fa.meth "House" "mask").ok K,
  (He.Fa.meth "House" "unmask").ok K,
  (He.Fa.meth "House" "set_flag").ok K,
  (He.Fa.meth "House" "clear_flag").ok K,
  (He.Fa.meth "House" "tick").ok K,
  (He.Fa.meth "House" "ticks").ok K,
  (He.Fa.meth "House" "fate").ok K,
  (He.Fa.meth "House" "_check_line").ok K,
  (He.Fa.meth "House" "_check_processor").ok K,
  (He.Fa.meth "House" "_running").ok K,
  (He.Fa.meth "House" "_line_row").ok K,
  (He.Fa.meth "House" "_place").ok K,
  (He.Fa.meth "House" "_place_lines").ok K,
  (He.Fa.meth "House" "_note_events").ok K,
  (He.Fa.meth "House" "_let_go_off").ok K,
  (He.Fa.meth "House" "_move_works").ok K,
  propB K "Setup" "lines",
  propB K "Setup" "works",
  propB K "Setup" "order",
  propB K "House" "setup",
  propB K "House" "routes",
  propB K "House" "storms",
  propB K "House" "now",
  propB K "House" "begin_counts",
  propB K "House" "rings",
  creadB K (aC "Setup" K),
  cvalB K (aC "Setup" K) "MAX_LINES" 12,
  cvalB K (aC "Setup" K) "MAX_WORKS" 8,
  cvalB K (aC "Setup" K) "MAX_FLAG" 7,
  tupAtB K (He.dflAt ("Setup", some "__init__") 0 K) [],
  PySem.W.fnIn K (He.ma K (aC "Setup" K) "__getitem__"),
  decide (PySem.W.typeIn K (.ref (aC "HouseBoard" K)) = some (.type "type")),
  (He.Fa.free "super").ok K,
  decide (PySem.W.mroIn K (aC "HouseBoard" K) (.ref (aC "HouseBoard" K)) = some true),
  decide (PySem.W.nsIn K PySem.cStatics "thirdparty.any" = some none),
  tupAtB K (kwAt (He.ma K (aC "House" K) "__init__") "routes" K) [],
  tupAtB K (kwAt (He.ma K (aC "House" K) "__init__") "storms" K) [],
  decide (PySem.W.ks_superIn K (aC "HouseBoard" K) (aC "HouseBoard" K) "__init__" = some (some (.ref (He.ma K (aC "Board" K) "__init__")))),
  decide (PySem.W.ks_superIn K (aC "HouseBoard" K) (aC "HouseBoard" K) "ring" = some (some (.ref (He.ma K (aC "Board" K) "ring")))),
  decide (PySem.W.ks_superIn K (aC "HouseBoard" K) (aC "HouseBoard" K) "quiet" = some (some (.ref (He.ma K (aC "Board" K) "quiet")))),
  decide (PySem.W.ks_superIn K (aC "HouseBoard" K) (aC "HouseBoard" K) "begin" = some (some (.ref (He.ma K (aC "Board" K) "begin")))),
  decide (PySem.W.ks_superIn K (aC "HouseBoard" K) (aC "HouseBoard" K) "end" = some (some (.ref (He.ma K (aC "Board" K) "end")))),
  (He.Fa.meth "HouseBoard" "_check_line").ok K && decide (He.ma K (aC "HouseBoard" K) "_check_line" = He.ma K (aC "Board" K) "_check_line"),
  (He.Fa.meth "HouseBoard" "_is_edge").ok K && decide (He.ma K (aC "HouseBoard" K) "_is_edge" = He.ma K (aC "Board" K) "_is_edge"),
  (He.Fa.meth "HouseBoard" "mask").ok K && decide (He.ma K (aC "HouseBoard" K) "mask" = He.ma K (aC "Board" K) "mask"),
  (He.Fa.meth "HouseBoard" "unmask").ok K && decide (He.ma K (aC "HouseBoard" K) "unmask" = He.ma K (aC "Board" K) "unmask"),
  (He.Fa.meth "HouseBoard" "set_flag").ok K && decide (He.ma K (aC "HouseBoard" K) "set_flag" = He.ma K (aC "Board" K) "set_flag"),
  (He.Fa.meth "HouseBoard" "clear_flag").ok K && decide (He.ma K (aC "HouseBoard" K) "clear_flag" = He.ma K (aC "Board" K) "clear_flag"),
  (He.Fa.meth "HouseBoard" "act").ok K && decide (He.ma K (aC "HouseBoard" K) "act" = He.ma K (aC "Board" K) "act"),
  (He.Fa.meth "HouseBoard" "is_up").ok K && decide (He.ma K (aC "HouseBoard" K) "is_up" = He.ma K (aC "Board" K) "is_up"),
  (He.Fa.meth "HouseBoard" "is_enabled").ok K && decide (He.ma K (aC "HouseBoard" K) "is_enabled" = He.ma K (aC "Board" K) "is_enabled"),
  (He.Fa.meth "HouseBoard" "is_high").ok K && decide (He.ma K (aC "HouseBoard" K) "is_high" = He.ma K (aC "Board" K) "is_high"),
  (He.Fa.meth "HouseBoard" "waits").ok K && decide (He.ma K (aC "HouseBoard" K) "waits" = He.ma K (aC "Board" K) "waits"),
  (He.Fa.meth "HouseBoard" "waiting_lines").ok K && decide (He.ma K (aC "HouseBoard" K) "waiting_lines" = He.ma K (aC "Board" K) "waiting_lines"),
  (He.Fa.meth "HouseBoard" "ready_lines").ok K && decide (He.ma K (aC "HouseBoard" K) "ready_lines" = He.ma K (aC "Board" K) "ready_lines"),
  (He.Fa.meth "HouseBoard" "disabled_lines").ok K && decide (He.ma K (aC "HouseBoard" K) "disabled_lines" = He.ma K (aC "Board" K) "disabled_lines"),
  (He.Fa.meth "HouseBoard" "high_lines").ok K && decide (He.ma K (aC "HouseBoard" K) "high_lines" = He.ma K (aC "Board" K) "high_lines"),
  (He.Fa.meth "HouseBoard" "raised_flags").ok K && decide (He.ma K (aC "HouseBoard" K) "raised_flags" = He.ma K (aC "Board" K) "raised_flags")]
def exM (K : PySem.W.Frag) : Bool := (exL K).all id
theorem ex_at {K : PySem.W.Frag} (h : exM K = true) (i : Nat) {b : Bool} (e : (exL K)[i]? = some b := by rfl) : b = true := List.all_eq_true.mp h b (List.mem_of_getElem? e)
theorem txt_of {K : PySem.W.Frag} {mg : Str → Option Value} {hp : Heap} (X : K.In hp) (G : hp.Ns mainGlobals mg) (h0 : exM K = true) : Txt K mg where
  n_len := have h := ex_at h0 0; He.free_ok X G h
  n_isinstance := have h := ex_at h0 1; He.free_ok X G h
  n_enumerate := have h := ex_at h0 2; He.free_ok X G h
  n_range := have h := ex_at h0 3; He.free_ok X G h
  n_tuple := have h := ex_at h0 4; He.free_ok X G h
  n_list := have h := ex_at h0 5; He.free_ok X G h
  n_dict := have h := ex_at h0 6; He.free_ok X G h
  n_sorted := have h := ex_at h0 7; He.free_ok X G h
  n_all := have h := ex_at h0 8; He.free_ok X G h
  n_sum := have h := ex_at h0 9; He.free_ok X G h
  n_max := have h := ex_at h0 10; He.free_ok X G h
  n_int := have h := ex_at h0 11; He.free_ok X G h
  n_bool := have h := ex_at h0 12; He.free_ok X G h
  n_str := have h := ex_at h0 13; He.free_ok X G h
  n_min := have h := ex_at h0 14; He.free_ok X G h
  n_set := have h := ex_at h0 15; He.free_ok X G h
  k_MAX_LETTERS := have h := ex_at h0 16; int_rel (He.int_ok X G h)
  k_MAX_RANK := have h := ex_at h0 17; int_rel (He.int_ok X G h)
  k_MAX_STEPS := have h := ex_at h0 18; int_rel (He.int_ok X G h)
  k_MAX_TICKS := have h := ex_at h0 19; int_rel (He.int_ok X G h)
  k_CALLED := have h := ex_at h0 20; int_rel (He.int_ok X G h)
  k_SPUN := have h := ex_at h0 21; int_rel (He.int_ok X G h)
  k_WORKED := have h := ex_at h0 22; int_rel (He.int_ok X G h)
  k_IDLE := have h := ex_at h0 23; int_rel (He.int_ok X G h)
  k_MOST_TICKS := have h := ex_at h0 24; int_rel (He.int_ok X G h)
  k_MAX_STORM := have h := ex_at h0 25; int_rel (He.int_ok X G h)
  k_MAX_PROCESSORS := have h := ex_at h0 26; int_rel (He.int_ok X G h)
  k_KINDS := have h := ex_at h0 27; ⟨_, He.glo_ok X G h, rfl⟩
  v_KINDS := have h := ex_at h0 28; He.tupB_ok h
  k_RULES := have h := ex_at h0 29; ⟨_, He.glo_ok X G h, rfl⟩
  v_RULES := have h := ex_at h0 30; He.tupB_ok h
  k_ARGUMENTS := have h := ex_at h0 31; ⟨_, He.glo_ok X G h, rfl⟩
  v_ARGUMENTS := have h := ex_at h0 32; h
  f_is_integer := have h := ex_at h0 33; He.glo_ok X G h
  f_check_number := have h := ex_at h0 34; He.glo_ok X G h
  f_is_letters := have h := ex_at h0 35; He.glo_ok X G h
  f_is_name := have h := ex_at h0 36; He.glo_ok X G h
  f_is_line := have h := ex_at h0 37; He.glo_ok X G h
  f_is_work := have h := ex_at h0 38; He.glo_ok X G h
  f_is_step := have h := ex_at h0 39; He.glo_ok X G h
  f_spoilt_named := have h := ex_at h0 40; He.glo_ok X G h
  f_spoilt_line := have h := ex_at h0 41; He.glo_ok X G h
  f_spoilt_work := have h := ex_at h0 42; He.glo_ok X G h
  f_spoilt_handler := have h := ex_at h0 43; He.glo_ok X G h
  f_is_route := have h := ex_at h0 44; He.glo_ok X G h
  f_spoilt_route := have h := ex_at h0 45; He.glo_ok X G h
  f_check_setup := have h := ex_at h0 46; He.glo_ok X G h
  f_put_changed := have h := ex_at h0 47; He.glo_ok X G h
  f_check_flag := have h := ex_at h0 48; He.glo_ok X G h
  f_is_storm := have h := ex_at h0 49; He.glo_ok X G h
  f_spoilt_storm := have h := ex_at h0 50; He.glo_ok X G h
  f_check_house := have h := ex_at h0 51; He.glo_ok X G h
  f__law_taken := have h := ex_at h0 52; He.glo_ok X G h
  f_law := have h := ex_at h0 53; He.glo_ok X G h
  g_Setup := have h := ex_at h0 54; He.glo_ok X G h
  cl_Setup := have h := ex_at h0 55; He.cls_ok h
  mk_Setup := have h := ex_at h0 56; He.mkr_ok h
  t_Setup_lines := have h := ex_at h0 57; He.noat_ok h
  t_Setup_works := have h := ex_at h0 58; He.noat_ok h
  t_Setup_by_name := have h := ex_at h0 59; He.noat_ok h
  t_Setup_order := have h := ex_at h0 60; He.noat_ok h
  g_Router := have h := ex_at h0 61; He.glo_ok X G h
  cl_Router := have h := ex_at h0 62; He.cls_ok h
  mk_Router := have h := ex_at h0 63; He.mkr_ok h
  t_Router_rules := have h := ex_at h0 64; He.noat_ok h
  t_Router_stops := have h := ex_at h0 65; He.noat_ok h
  t_Router_turns := have h := ex_at h0 66; He.noat_ok h
  g_Board := have h := ex_at h0 67; He.glo_ok X G h
  cl_Board := have h := ex_at h0 68; He.cls_ok h
  mk_Board := have h := ex_at h0 69; He.mkr_ok h
  t_Board_setup := have h := ex_at h0 70; He.noat_ok h
  t_Board_rung := have h := ex_at h0 71; He.noat_ok h
  t_Board_disabled := have h := ex_at h0 72; He.noat_ok h
  t_Board_under_way := have h := ex_at h0 73; He.noat_ok h
  t_Board_flags := have h := ex_at h0 74; He.noat_ok h
  t_Board_merges := have h := ex_at h0 75; He.noat_ok h
  g_HouseBoard := have h := ex_at h0 76; He.glo_ok X G h
  cl_HouseBoard := have h := ex_at h0 77; He.cls_ok h
  mk_HouseBoard := have h := ex_at h0 78; He.mkr_ok h
  t_HouseBoard_setup := have h := ex_at h0 79; He.noat_ok h
  t_HouseBoard_rung := have h := ex_at h0 80; He.noat_ok h
  t_HouseBoard_disabled := have h := ex_at h0 81; He.noat_ok h
  t_HouseBoard_under_way := have h := ex_at h0 82; He.noat_ok h
  t_HouseBoard_flags := have h := ex_at h0 83; He.noat_ok h
  t_HouseBoard_merges := have h := ex_at h0 84; He.noat_ok h
  t_HouseBoard_tick := have h := ex_at h0 85; He.noat_ok h
  t_HouseBoard_places := have h := ex_at h0 86; He.noat_ok h
  t_HouseBoard_owners := have h := ex_at h0 87; He.noat_ok h
  t_HouseBoard_rings := have h := ex_at h0 88; He.noat_ok h
  t_HouseBoard_fates := have h := ex_at h0 89; He.noat_ok h
  t_HouseBoard_numbers := have h := ex_at h0 90; He.noat_ok h
  g_WorkQueue := have h := ex_at h0 91; He.glo_ok X G h
  cl_WorkQueue := have h := ex_at h0 92; He.cls_ok h
  mk_WorkQueue := have h := ex_at h0 93; He.mkr_ok h
  t_WorkQueue_ranks := have h := ex_at h0 94; He.noat_ok h
  t_WorkQueue_lengths := have h := ex_at h0 95; He.noat_ok h
  t_WorkQueue_rows := have h := ex_at h0 96; He.noat_ok h
  g_Processor := have h := ex_at h0 97; He.glo_ok X G h
  cl_Processor := have h := ex_at h0 98; He.cls_ok h
  mk_Processor := have h := ex_at h0 99; He.mkr_ok h
  t_Processor_setup := have h := ex_at h0 100; He.noat_ok h
  t_Processor_board := have h := ex_at h0 101; He.noat_ok h
  t_Processor_bar := have h := ex_at h0 102; He.noat_ok h
  t_Processor_stack := have h := ex_at h0 103; He.noat_ok h
  t_Processor_jobs := have h := ex_at h0 104; He.noat_ok h
  t_Processor_counts := have h := ex_at h0 105; He.noat_ok h
  g_StormWatch := have h := ex_at h0 106; He.glo_ok X G h
  cl_StormWatch := have h := ex_at h0 107; He.cls_ok h
  mk_StormWatch := have h := ex_at h0 108; He.mkr_ok h
  t_StormWatch_storms := have h := ex_at h0 109; He.noat_ok h
  t_StormWatch_counted := have h := ex_at h0 110; He.noat_ok h
  t_StormWatch_until := have h := ex_at h0 111; He.noat_ok h
  g_House := have h := ex_at h0 112; He.glo_ok X G h
  cl_House := have h := ex_at h0 113; He.cls_ok h
  mk_House := have h := ex_at h0 114; He.mkr_ok h
  t_House_setup := have h := ex_at h0 115; He.noat_ok h
  t_House_count := have h := ex_at h0 116; He.noat_ok h
  t_House_routes := have h := ex_at h0 117; He.noat_ok h
  t_House_storms := have h := ex_at h0 118; He.noat_ok h
  t_House_board := have h := ex_at h0 119; He.noat_ok h
  t_House_router := have h := ex_at h0 120; He.noat_ok h
  t_House_watch := have h := ex_at h0 121; He.noat_ok h
  t_House_states := have h := ex_at h0 122; He.noat_ok h
  t_House_processors := have h := ex_at h0 123; He.noat_ok h
  t_House_begin_totals := have h := ex_at h0 124; He.noat_ok h
  t_House_done_totals := have h := ex_at h0 125; He.noat_ok h
  t_House_events := have h := ex_at h0 126; He.noat_ok h
  m_Router_choose := have h := ex_at h0 127; He.meth_ok h
  m_Router_turned := have h := ex_at h0 128; He.meth_ok h
  m_Setup_len := have h := ex_at h0 129; He.meth_ok h
  m_Setup_contains := have h := ex_at h0 130; He.meth_ok h
  m_Setup_getitem := have h := ex_at h0 131; He.meth_ok h
  m_Board_check_line := have h := ex_at h0 132; He.meth_ok h
  m_Board_is_edge := have h := ex_at h0 133; He.meth_ok h
  m_Board_ring := have h := ex_at h0 134; He.meth_ok h
  m_Board_quiet := have h := ex_at h0 135; He.meth_ok h
  m_Board_mask := have h := ex_at h0 136; He.meth_ok h
  m_Board_unmask := have h := ex_at h0 137; He.meth_ok h
  m_Board_set_flag := have h := ex_at h0 138; He.meth_ok h
  m_Board_clear_flag := have h := ex_at h0 139; He.meth_ok h
  m_Board_act := have h := ex_at h0 140; He.meth_ok h
  m_Board_begin := have h := ex_at h0 141; He.meth_ok h
  m_Board_end := have h := ex_at h0 142; He.meth_ok h
  m_Board_is_up := have h := ex_at h0 143; He.meth_ok h
  m_Board_is_enabled := have h := ex_at h0 144; He.meth_ok h
  m_Board_is_high := have h := ex_at h0 145; He.meth_ok h
  m_Board_waits := have h := ex_at h0 146; He.meth_ok h
  m_Board_waiting_lines := have h := ex_at h0 147; He.meth_ok h
  m_Board_ready_lines := have h := ex_at h0 148; He.meth_ok h
  m_Board_raised_flags := have h := ex_at h0 149; He.meth_ok h
  m_HouseBoard_ring := have h := ex_at h0 150; He.meth_ok h
  m_HouseBoard_note_ring := have h := ex_at h0 151; He.meth_ok h
  m_HouseBoard_quiet := have h := ex_at h0 152; He.meth_ok h
  m_HouseBoard_begin := have h := ex_at h0 153; He.meth_ok h
  m_HouseBoard_end := have h := ex_at h0 154; He.meth_ok h
  m_HouseBoard_put_on := have h := ex_at h0 155; He.meth_ok h
  m_HouseBoard_pass_tick := have h := ex_at h0 156; He.meth_ok h
  m_HouseBoard_tick_number := have h := ex_at h0 157; He.meth_ok h
  m_HouseBoard_place_of := have h := ex_at h0 158; He.meth_ok h
  m_HouseBoard_owner_of := have h := ex_at h0 159; He.meth_ok h
  m_HouseBoard_lines_on := have h := ex_at h0 160; He.meth_ok h
  m_HouseBoard_ready_on := have h := ex_at h0 161; He.meth_ok h
  m_HouseBoard_unplaced_lines := have h := ex_at h0 162; He.meth_ok h
  m_HouseBoard_load_of := have h := ex_at h0 163; He.meth_ok h
  m_HouseBoard_ring_rows := have h := ex_at h0 164; He.meth_ok h
  m_HouseBoard_ring_fate := have h := ex_at h0 165; He.meth_ok h
  m_HouseBoard_all_fates := have h := ex_at h0 166; He.meth_ok h
  m_WorkQueue_rows := have h := ex_at h0 167; He.meth_ok h
  m_WorkQueue_is_empty := have h := ex_at h0 168; He.meth_ok h
  m_WorkQueue_put := have h := ex_at h0 169; He.meth_ok h
  m_WorkQueue_drop_rows := have h := ex_at h0 170; He.meth_ok h
  m_WorkQueue_spend := have h := ex_at h0 171; He.meth_ok h
  m_Processor_take := have h := ex_at h0 172; He.meth_ok h
  m_Processor_go_on := have h := ex_at h0 173; He.meth_ok h
  m_Processor_bar_now := have h := ex_at h0 174; He.meth_ok h
  m_Processor_call_rows := have h := ex_at h0 175; He.meth_ok h
  m_Processor_work_rows := have h := ex_at h0 176; He.meth_ok h
  m_Processor_hand_over_works := have h := ex_at h0 177; He.meth_ok h
  m_Processor_lets_by := have h := ex_at h0 178; He.meth_ok h
  m_Processor_present_step := have h := ex_at h0 179; He.meth_ok h
  m_Processor_passes_flag := have h := ex_at h0 180; He.meth_ok h
  m_Processor_takes_no_tick := have h := ex_at h0 181; He.meth_ok h
  m_Processor_act := have h := ex_at h0 182; He.meth_ok h
  m_Processor_go_through := have h := ex_at h0 183; He.meth_ok h
  m_Processor_spend := have h := ex_at h0 184; He.meth_ok h
  m_Processor_spend_beside_calls := have h := ex_at h0 185; He.meth_ok h
  m_StormWatch_note_begin := have h := ex_at h0 186; He.meth_ok h
  m_StormWatch_held_until := have h := ex_at h0 187; He.meth_ok h
  m_StormWatch_still_counted := have h := ex_at h0 188; He.meth_ok h
  m_House_len := have h := ex_at h0 189; He.meth_ok h
  m_House_contains := have h := ex_at h0 190; He.meth_ok h
  m_House_getitem := have h := ex_at h0 191; He.meth_ok h
  m_House_iter := have h := ex_at h0 192; He.meth_ok h
  m_House_call := have h := ex_at h0 193; He.meth_ok h
  m_House_rooms := have h := ex_at h0 194; He.meth_ok h
  m_House_ring := have h := ex_at h0 195; He.meth_ok h
  m_House_quiet := have h := ex_at h0 196; He.meth_ok h
  m_House_mask := have h := ex_at h0 197; He.meth_ok h
  m_House_unmask := have h := ex_at h0 198; He.meth_ok h
  m_House_set_flag := have h := ex_at h0 199; He.meth_ok h
  m_House_clear_flag := have h := ex_at h0 200; He.meth_ok h
  m_House_tick := have h := ex_at h0 201; He.meth_ok h
  m_House_ticks := have h := ex_at h0 202; He.meth_ok h
  m_House_fate := have h := ex_at h0 203; He.meth_ok h
  m_House_check_line := have h := ex_at h0 204; He.meth_ok h
  m_House_check_processor := have h := ex_at h0 205; He.meth_ok h
  m_House_running := have h := ex_at h0 206; He.meth_ok h
  m_House_line_row := have h := ex_at h0 207; He.meth_ok h
  m_House_place := have h := ex_at h0 208; He.meth_ok h
  m_House_place_lines := have h := ex_at h0 209; He.meth_ok h
  m_House_note_events := have h := ex_at h0 210; He.meth_ok h
  m_House_let_go_off := have h := ex_at h0 211; He.meth_ok h
  m_House_move_works := have h := ex_at h0 212; He.meth_ok h
  p_Setup_lines := have h := ex_at h0 213; propB_ok h
  p_Setup_works := have h := ex_at h0 214; propB_ok h
  p_Setup_order := have h := ex_at h0 215; propB_ok h
  p_House_setup := have h := ex_at h0 216; propB_ok h
  p_House_routes := have h := ex_at h0 217; propB_ok h
  p_House_storms := have h := ex_at h0 218; propB_ok h
  p_House_now := have h := ex_at h0 219; propB_ok h
  p_House_begin_counts := have h := ex_at h0 220; propB_ok h
  p_House_rings := have h := ex_at h0 221; propB_ok h
  r_Setup := have h := ex_at h0 222; creadB_ok h
  c_Setup_MAX_LINES := have h := ex_at h0 223; cvalB_ok h
  c_Setup_MAX_WORKS := have h := ex_at h0 224; cvalB_ok h
  c_Setup_MAX_FLAG := have h := ex_at h0 225; cvalB_ok h
  d_Setup := have h := ex_at h0 226; tupAtB_ok h
  i_getitem := have h := ex_at h0 227; h
  ty_HB := have h := ex_at h0 228; of_decide_eq_true h
  n_super := have h := ex_at h0 229; He.free_ok X G h
  mr_HB := have h := ex_at h0 230; of_decide_eq_true h
  op_any := have h := ex_at h0 231; of_decide_eq_true h
  kw_routes := have h := ex_at h0 232; tupAtB_ok h
  kw_storms := have h := ex_at h0 233; tupAtB_ok h
  sm_init := have h := ex_at h0 234; of_decide_eq_true h
  sm_ring := have h := ex_at h0 235; of_decide_eq_true h
  sm_quiet := have h := ex_at h0 236; of_decide_eq_true h
  sm_begin := have h := ex_at h0 237; of_decide_eq_true h
  sm_end := have h := ex_at h0 238; of_decide_eq_true h
  h_check_line := have h := ex_at h0 239; meth_as h
  h_is_edge := have h := ex_at h0 240; meth_as h
  h_mask := have h := ex_at h0 241; meth_as h
  h_unmask := have h := ex_at h0 242; meth_as h
  h_set_flag := have h := ex_at h0 243; meth_as h
  h_clear_flag := have h := ex_at h0 244; meth_as h
  h_act := have h := ex_at h0 245; meth_as h
  h_is_up := have h := ex_at h0 246; meth_as h
  h_is_enabled := have h := ex_at h0 247; meth_as h
  h_is_high := have h := ex_at h0 248; meth_as h
  h_waits := have h := ex_at h0 249; meth_as h
  h_waiting_lines := have h := ex_at h0 250; meth_as h
  h_ready_lines := have h := ex_at h0 251; meth_as h
  h_disabled_lines := have h := ex_at h0 252; meth_as h
  h_high_lines := have h := ex_at h0 253; meth_as h
  h_raised_flags := have h := ex_at h0 254; meth_as h
structure FnP (P : Program) (w : World) (K : PySem.W.Frag) (mg : Str → Option Value) (base : Heap) (k : Nat) (f : Addr) (sp : Sp) : Prop where
  ex : ∃ (fd : FuncData) (ps : List Str), FnOk P w K mg base CX0 k f fd ps sp ∧ Binds K fd ps []
theorem fun_c8 {K : PySem.W.Frag} {x qual : Str} {st : Stmt} {f : Addr} {fd : FuncData} {dvs : List V} {kws : List (Str × V)} (F : FunD K x qual (C8.fnArgs st) (C8.fnBody st) (C8.fnScope st) dvs kws f fd) : C8.Fun K x qual st f fd := by
  obtain ⟨oc, od, dV, kV, doc, pm, an, cdv, ct, osl, e, l, c, _⟩ := F.ex
  exact ⟨oc, od, dV, kV, doc, pm, an, cdv, ct, osl, e, l, c⟩
theorem fnP_mk {P : Program} {w : World} {K : PySem.W.Frag} {mg : Str → Option Value} {base : Heap} {m qual : Str} {st : Stmt} {f : Addr} {fd : FuncData} {N ps : List Str} {k : Nat} {sp : Sp} (F : C8.Fun K m qual st f fd) (b : Binds K fd ps []) (S : FnScope N ps (C8.fnScope st))
    (len : ∀ vs H Q E, sp vs H Q E → vs.length = ps.length)
    (hbody : ∀ (cdv : Value) (A : Around) (outer : List Env) (s : Shared) (H : Hp) (vs : List V) (Q : VK) (E : XK), Room k (A.deeper (envOfC qual (C8.fnScope st) s.heap.objs.size f cdv)) → sp vs H Q E →
      ∃ t, PSs (cxOf CX0 P w K mg base N qual (C8.fnScope st) f cdv A outer s H E).nox (C8.fnBody st) t ∧ t { nx := fun _ H' => Q .non H', rt := Q } (start N vs) H) : FnP P w K mg base (k + 1) f sp :=
  ⟨fd, ps, C8.fn0 F S len hbody, b⟩
end Cb

namespace Cb
open PySem PySem.Spec PyProof.Rows L2
/-- a def, and its class where it begins with super() -/
abbrev DefX : Type := Option Str × He5.DefA
def fileP : Str := PySem.Challenge.pw_callbells_k65_whole_levels.main.file
def obX (K : PySem.W.Frag) (d : DefX) : He5.FnW := match d.1 with
  | some _ => fnS K (d.2.at_ K)
  | none => He5.fnA K (d.2.at_ K)
def vaX (d : DefX) : He5.FnW := match d.1 with
  | some _ => valS d.2
  | none => d.2.val
def okX (K : PySem.W.Frag) (d : DefX) : Bool := match d.1 with
  | some c => okS fileP (fun K => aC c K) K d.2
  | none => d.2.ok K
abbrev AlM : Type := (Bool × List He5.FnW) × List (Option (List (Option (Str × Int))))
def obsM (ex : PySem.W.Frag → Bool) (fn : List DefX) (ts : List He.Tab) (K : PySem.W.Frag) : AlM := ((ex K && fn.all (okX K), fn.map (obX K)), ts.map fun t => He.dicW K (t.1 K))
def valM (fn : List DefX) (ts : List He.Tab) (w : World) : AlM := ((true, fn.map vaX), ts.map fun t => some (He.keysIn w.params t.2))
def SaysM (ex : PySem.W.Frag → Bool) (fn : List DefX) (ts : List He.Tab) (w : World) (K : PySem.W.Frag) : Prop := obsM ex fn ts K = valM fn ts w
def asL : List Addr := [3, 2, 31, 53, 74, 95, 107, 119, 140, 161, 295, 427, 629, 791, 849, 1001, 1063, 1393, 30, 52, 73, 94, 106, 118, 139, 160, 294, 426, 628, 790, 848, 1000, 1062, 1392, 21, 20, 172, 171, 179, 178, 186, 185, 193, 192, 200, 199, 207, 206, 214, 213, 221, 220, 226, 225, 231, 230, 236, 235, 242, 241, 247, 246, 438, 437, 445, 444, 452, 451, 1010, 1009, 1015, 1014, 1404, 1403, 1411, 1410, 1416, 1415, 50, 49, 71, 70, 92, 91, 137, 136, 158, 157, 259, 258, 266, 265, 273, 272, 278, 277, 285, 284, 292, 291, 313, 312, 330, 329, 337, 336, 344, 343, 351, 350, 358, 357, 363, 362, 410, 409, 417, 416, 424, 423, 464, 463, 471, 470, 478, 477, 485, 484, 492, 491, 499, 498, 506, 505, 513, 512, 520, 519, 527, 526, 534, 533, 541, 540, 548, 547, 555, 554, 562, 561, 569, 568, 576, 575, 583, 582, 588, 587, 593, 592, 600, 599, 607, 606, 614, 613, 619, 618, 626, 625, 647, 646, 654, 653, 662, 661, 669, 668, 677, 676, 685, 684, 693, 692, 700, 699, 707, 706, 714, 713, 721, 720, 728, 727, 735, 734, 740, 739, 745, 744, 750, 749, 755, 754, 762, 761, 769, 768, 776, 775, 781, 780, 788, 787, 805, 804, 812, 811, 819, 818, 826, 825, 832, 831, 839, 838, 846, 845, 867, 866, 874, 873, 881, 880, 888, 887, 895, 894, 900, 899, 907, 906, 914, 913, 921, 920, 928, 927, 935, 934, 942, 941, 949, 948, 956, 955, 963, 962, 970, 969, 977, 976, 984, 983, 991, 990, 998, 997, 1027, 1026, 1034, 1033, 1041, 1040, 1048, 1047, 1053, 1052, 1060, 1059, 1082, 1081, 1089, 1088, 1096, 1095, 1103, 1102, 1110, 1109, 1115, 1114, 1122, 1121, 1129, 1128, 1136, 1135, 1143, 1142, 1148, 1147, 1153, 1152, 1160, 1159, 1167, 1166, 1174, 1173, 1181, 1180, 1188, 1187, 1195, 1194, 1202, 1201, 1209, 1208, 1216, 1215, 1223, 1222, 1230, 1229, 1237, 1236, 1244, 1243, 1251, 1250, 1338, 1337, 1345, 1344, 1350, 1349, 1357, 1356, 1364, 1363, 1371, 1370, 1378, 1377, 1385, 1384, 1390, 1389, 320, 319, 370, 369, 378, 377, 386, 385, 394, 393, 402, 401, 1258, 1257, 1266, 1265, 1274, 1273, 1282, 1281, 1290, 1289, 1298, 1297, 1306, 1305, 1314, 1313, 1322, 1321, 1330, 1329, 6, 4, 164, 165, 237, 29, 32, 51, 72, 93, 105, 117, 138, 159, 293, 296, 297, 322, 371, 379, 387, 395, 403, 425, 428, 429, 627, 630, 631, 789, 847, 850, 851, 999, 1002, 1003, 1061, 1064, 1065, 1259, 1267, 1275, 1283, 1291, 1299, 1307, 1315, 1323, 1331, 1391, 1394, 1395, 38, 59, 80, 125, 146, 308, 637, 827, 1077, 307, 1075, 1076]
def obsMG (n : Nat) (ex : PySem.W.Frag → Bool) (fn : List DefX) (ts : List He.Tab) (g : Addr → Option Obj) : AlM := obsM ex fn ts (He.frG g asL)
def hookM (n : Nat) (ex : PySem.W.Frag → Bool) (fn : List DefX) (ts : List He.Tab) : PySem.W.Hook where
  α := AlM
  obs := fun s => obsMG n ex fn ts s.heap.get?
  val := fun w => valM fn ts w
  says := fun w h => ∃ K : PySem.W.Frag, K.In h ∧ SaysM ex fn ts w K
  of := fun _ _ e => ⟨_, He.frG_in, e⟩
  keeps := fun _ _ _ ⟨K, hK, c⟩ k => ⟨K, PySem.W.Frag.In.keeps hK k, c⟩
theorem obsMG_eq {n : Nat} {ex : PySem.W.Frag → Bool} {fn : List DefX} {ts : List He.Tab} {g : Addr → Option Obj} {s : Shared} (h : ∀ a, g a = s.heap.get? a) : obsMG n ex fn ts g = (hookM n ex fn ts).obs s := by
  have e : g = s.heap.get? := funext h
  rw [e] <;> rfl
section
variable {ex : PySem.W.Frag → Bool} {fn : List DefX} {ts : List He.Tab} {w : World} {K : PySem.W.Frag}
theorem SaysM.exok (c : SaysM ex fn ts w K) : ex K = true := (He.ba (show (ex K && fn.all (okX K)) = true from congrArg (fun z : AlM => z.1.1) c)).1
theorem SaysM.at_ (c : SaysM ex fn ts w K) (i : Nat) {d : DefX} (h : fn[i]? = some d) : obX K d = vaX d ∧ okX K d = true := by
  have c2 := (He.ba (show (ex K && fn.all (okX K)) = true from congrArg (fun z : AlM => z.1.1) c)).2
  have e : fn.map (obX K) = fn.map vaX := congrArg (fun z : AlM => z.1.2) c
  have e2 : (fn.map (obX K))[i]? = (fn.map vaX)[i]? := by rw [e]
  rw [List.getElem?_map, List.getElem?_map, h] at e2
  exact ⟨Option.some.inj e2, List.all_eq_true.mp c2 d (List.mem_of_getElem? h)⟩
theorem SaysM.def_ (c : SaysM ex fn ts w K) (i : Nat) {d : He5.DefA} (h : fn[i]? = some (none, d) := by rfl) : ∃ fd, FunD K d.name d.qual d.params d.body d.scope (d.dvs K) (d.kws K) (d.at_ K) fd :=
  let ⟨a, b⟩ := c.at_ i h
  He5.DefA.funD a b
theorem SaysM.sup_ (c : SaysM ex fn ts w K) (i : Nat) {x : Str} {d : He5.DefA} (h : fn[i]? = some (some x, d) := by rfl) : ∃ fd, FunS K fileP d.name d.qual d.params d.body d.scope (d.dvs K) (d.kws K) (d.at_ K) (aC x K) fd :=
  let ⟨a, b⟩ := c.at_ i h
  funS_of (D := fun K => aC x K) a b
theorem SaysM.tab (c : SaysM ex fn ts w K) (i : Nat) {t : He.Tab} (h : ts[i]? = some t := by rfl) : ∃ es n, KDict K w (t.1 K) es n := by
  have e : ts.map (fun t => He.dicW K (t.1 K)) = ts.map fun t => some (He.keysIn w.params t.2) := congrArg (fun z : AlM => z.2) c
  have e2 : (ts.map fun t => He.dicW K (t.1 K))[i]? = (ts.map fun t => some (He.keysIn w.params t.2))[i]? := by rw [e]
  rw [List.getElem?_map, List.getElem?_map, h] at e2
  exact He.dicW_ok (Option.some.inj e2)
end
def D_is_integer : He5.DefA := ⟨fun K => He.ga K "is_integer", "is_integer", "is_integer", C8.fnArgs s_is_integer, C8.fnBody s_is_integer, C8.fnScope s_is_integer, [], []⟩
def D_check_number : He5.DefA := ⟨fun K => He.ga K "check_number", "check_number", "check_number", C8.fnArgs s_check_number, C8.fnBody s_check_number, C8.fnScope s_check_number, [], []⟩
def D_is_letters : He5.DefA := ⟨fun K => He.ga K "is_letters", "is_letters", "is_letters", C8.fnArgs s_is_letters, C8.fnBody s_is_letters, C8.fnScope s_is_letters, [], []⟩
def D_is_name : He5.DefA := ⟨fun K => He.ga K "is_name", "is_name", "is_name", C8.fnArgs s_is_name, C8.fnBody s_is_name, C8.fnScope s_is_name, [], []⟩
def D_is_line : He5.DefA := ⟨fun K => He.ga K "is_line", "is_line", "is_line", C8.fnArgs s_is_line, C8.fnBody s_is_line, C8.fnScope s_is_line, [], []⟩
def D_is_work : He5.DefA := ⟨fun K => He.ga K "is_work", "is_work", "is_work", C8.fnArgs s_is_work, C8.fnBody s_is_work, C8.fnScope s_is_work, [], []⟩
def D_is_step : He5.DefA := ⟨fun K => He.ga K "is_step", "is_step", "is_step", C8.fnArgs s_is_step, C8.fnBody s_is_step, C8.fnScope s_is_step, [], []⟩
def D_spoilt_named : He5.DefA := ⟨fun K => He.ga K "spoilt_named", "spoilt_named", "spoilt_named", C8.fnArgs s_spoilt_named, C8.fnBody s_spoilt_named, C8.fnScope s_spoilt_named, [], []⟩
def D_spoilt_line : He5.DefA := ⟨fun K => He.ga K "spoilt_line", "spoilt_line", "spoilt_line", C8.fnArgs s_spoilt_line, C8.fnBody s_spoilt_line, C8.fnScope s_spoilt_line, [], []⟩
def D_spoilt_work : He5.DefA := ⟨fun K => He.ga K "spoilt_work", "spoilt_work", "spoilt_work", C8.fnArgs s_spoilt_work, C8.fnBody s_spoilt_work, C8.fnScope s_spoilt_work, [], []⟩
def D_spoilt_handler : He5.DefA := ⟨fun K => He.ga K "spoilt_handler", "spoilt_handler", "spoilt_handler", C8.fnArgs s_spoilt_handler, C8.fnBody s_spoilt_handler, C8.fnScope s_spoilt_handler, [], []⟩
def D_is_route : He5.DefA := ⟨fun K => He.ga K "is_route", "is_route", "is_route", C8.fnArgs s_is_route, C8.fnBody s_is_route, C8.fnScope s_is_route, [], []⟩
def D_spoilt_route : He5.DefA := ⟨fun K => He.ga K "spoilt_route", "spoilt_route", "spoilt_route", C8.fnArgs s_spoilt_route, C8.fnBody s_spoilt_route, C8.fnScope s_spoilt_route, [], []⟩
def D_Router_init : He5.DefA := ⟨fun K => He.ma K (He.ga K "Router") "__init__", "__init__", "Router.__init__", C8.fnArgs s_Router_init, C8.fnBody s_Router_init, C8.fnScope s_Router_init, [], []⟩
def D_Router_choose : He5.DefA := ⟨fun K => He.ma K (He.ga K "Router") "choose", "choose", "Router.choose", C8.fnArgs s_Router_choose, C8.fnBody s_Router_choose, C8.fnScope s_Router_choose, [], []⟩
def D_Router_turned : He5.DefA := ⟨fun K => He.ma K (He.ga K "Router") "_turned", "_turned", "Router._turned", C8.fnArgs s_Router_turned, C8.fnBody s_Router_turned, C8.fnScope s_Router_turned, [], []⟩
def D_Setup_init : He5.DefA := ⟨fun K => He.ma K (He.ga K "Setup") "__init__", "__init__", "Setup.__init__", C8.fnArgs s_Setup_init, C8.fnBody s_Setup_init, C8.fnScope s_Setup_init, [.adr (He.dflAt ("Setup", some "__init__") 0)], []⟩
def D_Setup_len : He5.DefA := ⟨fun K => He.ma K (He.ga K "Setup") "__len__", "__len__", "Setup.__len__", C8.fnArgs s_Setup_len, C8.fnBody s_Setup_len, C8.fnScope s_Setup_len, [], []⟩
def D_Setup_contains : He5.DefA := ⟨fun K => He.ma K (He.ga K "Setup") "__contains__", "__contains__", "Setup.__contains__", C8.fnArgs s_Setup_contains, C8.fnBody s_Setup_contains, C8.fnScope s_Setup_contains, [], []⟩
def D_Setup_getitem : He5.DefA := ⟨fun K => He.ma K (He.ga K "Setup") "__getitem__", "__getitem__", "Setup.__getitem__", C8.fnArgs s_Setup_getitem, C8.fnBody s_Setup_getitem, C8.fnScope s_Setup_getitem, [], []⟩
def D_Setup_lines : He5.DefA := ⟨prA "Setup" "lines", "lines", "Setup.lines", C8.fnArgs s_Setup_lines, C8.fnBody s_Setup_lines, C8.fnScope s_Setup_lines, [], []⟩
def D_Setup_works : He5.DefA := ⟨prA "Setup" "works", "works", "Setup.works", C8.fnArgs s_Setup_works, C8.fnBody s_Setup_works, C8.fnScope s_Setup_works, [], []⟩
def D_Setup_order : He5.DefA := ⟨prA "Setup" "order", "order", "Setup.order", C8.fnArgs s_Setup_order, C8.fnBody s_Setup_order, C8.fnScope s_Setup_order, [], []⟩
def D_check_setup : He5.DefA := ⟨fun K => He.ga K "check_setup", "check_setup", "check_setup", C8.fnArgs s_check_setup, C8.fnBody s_check_setup, C8.fnScope s_check_setup, [], []⟩
def D_put_changed : He5.DefA := ⟨fun K => He.ga K "put_changed", "put_changed", "put_changed", C8.fnArgs s_put_changed, C8.fnBody s_put_changed, C8.fnScope s_put_changed, [], []⟩
def D_check_flag : He5.DefA := ⟨fun K => He.ga K "check_flag", "check_flag", "check_flag", C8.fnArgs s_check_flag, C8.fnBody s_check_flag, C8.fnScope s_check_flag, [], []⟩
def D_Board_init : He5.DefA := ⟨fun K => He.ma K (He.ga K "Board") "__init__", "__init__", "Board.__init__", C8.fnArgs s_Board_init, C8.fnBody s_Board_init, C8.fnScope s_Board_init, [], []⟩
def D_Board_check_line : He5.DefA := ⟨fun K => He.ma K (He.ga K "Board") "_check_line", "_check_line", "Board._check_line", C8.fnArgs s_Board_check_line, C8.fnBody s_Board_check_line, C8.fnScope s_Board_check_line, [], []⟩
def D_Board_is_edge : He5.DefA := ⟨fun K => He.ma K (He.ga K "Board") "_is_edge", "_is_edge", "Board._is_edge", C8.fnArgs s_Board_is_edge, C8.fnBody s_Board_is_edge, C8.fnScope s_Board_is_edge, [], []⟩
def D_Board_ring : He5.DefA := ⟨fun K => He.ma K (He.ga K "Board") "ring", "ring", "Board.ring", C8.fnArgs s_Board_ring, C8.fnBody s_Board_ring, C8.fnScope s_Board_ring, [], []⟩
def D_Board_quiet : He5.DefA := ⟨fun K => He.ma K (He.ga K "Board") "quiet", "quiet", "Board.quiet", C8.fnArgs s_Board_quiet, C8.fnBody s_Board_quiet, C8.fnScope s_Board_quiet, [], []⟩
def D_Board_mask : He5.DefA := ⟨fun K => He.ma K (He.ga K "Board") "mask", "mask", "Board.mask", C8.fnArgs s_Board_mask, C8.fnBody s_Board_mask, C8.fnScope s_Board_mask, [], []⟩
def D_Board_unmask : He5.DefA := ⟨fun K => He.ma K (He.ga K "Board") "unmask", "unmask", "Board.unmask", C8.fnArgs s_Board_unmask, C8.fnBody s_Board_unmask, C8.fnScope s_Board_unmask, [], []⟩
def D_Board_set_flag : He5.DefA := ⟨fun K => He.ma K (He.ga K "Board") "set_flag", "set_flag", "Board.set_flag", C8.fnArgs s_Board_set_flag, C8.fnBody s_Board_set_flag, C8.fnScope s_Board_set_flag, [], []⟩
def D_Board_clear_flag : He5.DefA := ⟨fun K => He.ma K (He.ga K "Board") "clear_flag", "clear_flag", "Board.clear_flag", C8.fnArgs s_Board_clear_flag, C8.fnBody s_Board_clear_flag, C8.fnScope s_Board_clear_flag, [], []⟩
def D_Board_act : He5.DefA := ⟨fun K => He.ma K (He.ga K "Board") "act", "act", "Board.act", C8.fnArgs s_Board_act, C8.fnBody s_Board_act, C8.fnScope s_Board_act, [], []⟩
def D_Board_begin : He5.DefA := ⟨fun K => He.ma K (He.ga K "Board") "begin", "begin", "Board.begin", C8.fnArgs s_Board_begin, C8.fnBody s_Board_begin, C8.fnScope s_Board_begin, [], []⟩
def D_Board_end : He5.DefA := ⟨fun K => He.ma K (He.ga K "Board") "end", "end", "Board.end", C8.fnArgs s_Board_end, C8.fnBody s_Board_end, C8.fnScope s_Board_end, [], []⟩
def D_Board_is_up : He5.DefA := ⟨fun K => He.ma K (He.ga K "Board") "is_up", "is_up", "Board.is_up", C8.fnArgs s_Board_is_up, C8.fnBody s_Board_is_up, C8.fnScope s_Board_is_up, [], []⟩
def D_Board_is_enabled : He5.DefA := ⟨fun K => He.ma K (He.ga K "Board") "is_enabled", "is_enabled", "Board.is_enabled", C8.fnArgs s_Board_is_enabled, C8.fnBody s_Board_is_enabled, C8.fnScope s_Board_is_enabled, [], []⟩
def D_Board_is_high : He5.DefA := ⟨fun K => He.ma K (He.ga K "Board") "is_high", "is_high", "Board.is_high", C8.fnArgs s_Board_is_high, C8.fnBody s_Board_is_high, C8.fnScope s_Board_is_high, [], []⟩
def D_Board_waits : He5.DefA := ⟨fun K => He.ma K (He.ga K "Board") "waits", "waits", "Board.waits", C8.fnArgs s_Board_waits, C8.fnBody s_Board_waits, C8.fnScope s_Board_waits, [], []⟩
def D_Board_waiting_lines : He5.DefA := ⟨fun K => He.ma K (He.ga K "Board") "waiting_lines", "waiting_lines", "Board.waiting_lines", C8.fnArgs s_Board_waiting_lines, C8.fnBody s_Board_waiting_lines, C8.fnScope s_Board_waiting_lines, [], []⟩
def D_Board_ready_lines : He5.DefA := ⟨fun K => He.ma K (He.ga K "Board") "ready_lines", "ready_lines", "Board.ready_lines", C8.fnArgs s_Board_ready_lines, C8.fnBody s_Board_ready_lines, C8.fnScope s_Board_ready_lines, [], []⟩
def D_Board_raised_flags : He5.DefA := ⟨fun K => He.ma K (He.ga K "Board") "raised_flags", "raised_flags", "Board.raised_flags", C8.fnArgs s_Board_raised_flags, C8.fnBody s_Board_raised_flags, C8.fnScope s_Board_raised_flags, [], []⟩
def D_HouseBoard_init : He5.DefA := ⟨fun K => He.ma K (He.ga K "HouseBoard") "__init__", "__init__", "HouseBoard.__init__", C8.fnArgs s_HouseBoard_init, C8.fnBody s_HouseBoard_init, C8.fnScope s_HouseBoard_init, [], []⟩
def D_HouseBoard_ring : He5.DefA := ⟨fun K => He.ma K (He.ga K "HouseBoard") "ring", "ring", "HouseBoard.ring", C8.fnArgs s_HouseBoard_ring, C8.fnBody s_HouseBoard_ring, C8.fnScope s_HouseBoard_ring, [], []⟩
def D_HouseBoard_note_ring : He5.DefA := ⟨fun K => He.ma K (He.ga K "HouseBoard") "_note_ring", "_note_ring", "HouseBoard._note_ring", C8.fnArgs s_HouseBoard_note_ring, C8.fnBody s_HouseBoard_note_ring, C8.fnScope s_HouseBoard_note_ring, [], []⟩
def D_HouseBoard_quiet : He5.DefA := ⟨fun K => He.ma K (He.ga K "HouseBoard") "quiet", "quiet", "HouseBoard.quiet", C8.fnArgs s_HouseBoard_quiet, C8.fnBody s_HouseBoard_quiet, C8.fnScope s_HouseBoard_quiet, [], []⟩
def D_HouseBoard_begin : He5.DefA := ⟨fun K => He.ma K (He.ga K "HouseBoard") "begin", "begin", "HouseBoard.begin", C8.fnArgs s_HouseBoard_begin, C8.fnBody s_HouseBoard_begin, C8.fnScope s_HouseBoard_begin, [], []⟩
def D_HouseBoard_end : He5.DefA := ⟨fun K => He.ma K (He.ga K "HouseBoard") "end", "end", "HouseBoard.end", C8.fnArgs s_HouseBoard_end, C8.fnBody s_HouseBoard_end, C8.fnScope s_HouseBoard_end, [], []⟩
def D_HouseBoard_put_on : He5.DefA := ⟨fun K => He.ma K (He.ga K "HouseBoard") "put_on", "put_on", "HouseBoard.put_on", C8.fnArgs s_HouseBoard_put_on, C8.fnBody s_HouseBoard_put_on, C8.fnScope s_HouseBoard_put_on, [], []⟩
def D_HouseBoard_pass_tick : He5.DefA := ⟨fun K => He.ma K (He.ga K "HouseBoard") "pass_tick", "pass_tick", "HouseBoard.pass_tick", C8.fnArgs s_HouseBoard_pass_tick, C8.fnBody s_HouseBoard_pass_tick, C8.fnScope s_HouseBoard_pass_tick, [], []⟩
def D_HouseBoard_tick_number : He5.DefA := ⟨fun K => He.ma K (He.ga K "HouseBoard") "tick_number", "tick_number", "HouseBoard.tick_number", C8.fnArgs s_HouseBoard_tick_number, C8.fnBody s_HouseBoard_tick_number, C8.fnScope s_HouseBoard_tick_number, [], []⟩
def D_HouseBoard_place_of : He5.DefA := ⟨fun K => He.ma K (He.ga K "HouseBoard") "place_of", "place_of", "HouseBoard.place_of", C8.fnArgs s_HouseBoard_place_of, C8.fnBody s_HouseBoard_place_of, C8.fnScope s_HouseBoard_place_of, [], []⟩
def D_HouseBoard_owner_of : He5.DefA := ⟨fun K => He.ma K (He.ga K "HouseBoard") "owner_of", "owner_of", "HouseBoard.owner_of", C8.fnArgs s_HouseBoard_owner_of, C8.fnBody s_HouseBoard_owner_of, C8.fnScope s_HouseBoard_owner_of, [], []⟩
def D_HouseBoard_lines_on : He5.DefA := ⟨fun K => He.ma K (He.ga K "HouseBoard") "lines_on", "lines_on", "HouseBoard.lines_on", C8.fnArgs s_HouseBoard_lines_on, C8.fnBody s_HouseBoard_lines_on, C8.fnScope s_HouseBoard_lines_on, [], []⟩
def D_HouseBoard_ready_on : He5.DefA := ⟨fun K => He.ma K (He.ga K "HouseBoard") "ready_on", "ready_on", "HouseBoard.ready_on", C8.fnArgs s_HouseBoard_ready_on, C8.fnBody s_HouseBoard_ready_on, C8.fnScope s_HouseBoard_ready_on, [], []⟩
def D_HouseBoard_unplaced_lines : He5.DefA := ⟨fun K => He.ma K (He.ga K "HouseBoard") "unplaced_lines", "unplaced_lines", "HouseBoard.unplaced_lines", C8.fnArgs s_HouseBoard_unplaced_lines, C8.fnBody s_HouseBoard_unplaced_lines, C8.fnScope s_HouseBoard_unplaced_lines, [], []⟩
def D_HouseBoard_load_of : He5.DefA := ⟨fun K => He.ma K (He.ga K "HouseBoard") "load_of", "load_of", "HouseBoard.load_of", C8.fnArgs s_HouseBoard_load_of, C8.fnBody s_HouseBoard_load_of, C8.fnScope s_HouseBoard_load_of, [], []⟩
def D_HouseBoard_ring_rows : He5.DefA := ⟨fun K => He.ma K (He.ga K "HouseBoard") "ring_rows", "ring_rows", "HouseBoard.ring_rows", C8.fnArgs s_HouseBoard_ring_rows, C8.fnBody s_HouseBoard_ring_rows, C8.fnScope s_HouseBoard_ring_rows, [], []⟩
def D_HouseBoard_ring_fate : He5.DefA := ⟨fun K => He.ma K (He.ga K "HouseBoard") "ring_fate", "ring_fate", "HouseBoard.ring_fate", C8.fnArgs s_HouseBoard_ring_fate, C8.fnBody s_HouseBoard_ring_fate, C8.fnScope s_HouseBoard_ring_fate, [], []⟩
def D_HouseBoard_all_fates : He5.DefA := ⟨fun K => He.ma K (He.ga K "HouseBoard") "all_fates", "all_fates", "HouseBoard.all_fates", C8.fnArgs s_HouseBoard_all_fates, C8.fnBody s_HouseBoard_all_fates, C8.fnScope s_HouseBoard_all_fates, [], []⟩
def D_WorkQueue_init : He5.DefA := ⟨fun K => He.ma K (He.ga K "WorkQueue") "__init__", "__init__", "WorkQueue.__init__", C8.fnArgs s_WorkQueue_init, C8.fnBody s_WorkQueue_init, C8.fnScope s_WorkQueue_init, [], []⟩
def D_WorkQueue_rows : He5.DefA := ⟨fun K => He.ma K (He.ga K "WorkQueue") "rows", "rows", "WorkQueue.rows", C8.fnArgs s_WorkQueue_rows, C8.fnBody s_WorkQueue_rows, C8.fnScope s_WorkQueue_rows, [], []⟩
def D_WorkQueue_is_empty : He5.DefA := ⟨fun K => He.ma K (He.ga K "WorkQueue") "is_empty", "is_empty", "WorkQueue.is_empty", C8.fnArgs s_WorkQueue_is_empty, C8.fnBody s_WorkQueue_is_empty, C8.fnScope s_WorkQueue_is_empty, [], []⟩
def D_WorkQueue_put : He5.DefA := ⟨fun K => He.ma K (He.ga K "WorkQueue") "put", "put", "WorkQueue.put", C8.fnArgs s_WorkQueue_put, C8.fnBody s_WorkQueue_put, C8.fnScope s_WorkQueue_put, [.int 0], []⟩
def D_WorkQueue_drop_rows : He5.DefA := ⟨fun K => He.ma K (He.ga K "WorkQueue") "drop_rows", "drop_rows", "WorkQueue.drop_rows", C8.fnArgs s_WorkQueue_drop_rows, C8.fnBody s_WorkQueue_drop_rows, C8.fnScope s_WorkQueue_drop_rows, [], []⟩
def D_WorkQueue_spend : He5.DefA := ⟨fun K => He.ma K (He.ga K "WorkQueue") "spend", "spend", "WorkQueue.spend", C8.fnArgs s_WorkQueue_spend, C8.fnBody s_WorkQueue_spend, C8.fnScope s_WorkQueue_spend, [], []⟩
def D_Processor_init : He5.DefA := ⟨fun K => He.ma K (He.ga K "Processor") "__init__", "__init__", "Processor.__init__", C8.fnArgs s_Processor_init, C8.fnBody s_Processor_init, C8.fnScope s_Processor_init, [], []⟩
def D_Processor_take : He5.DefA := ⟨fun K => He.ma K (He.ga K "Processor") "take", "take", "Processor.take", C8.fnArgs s_Processor_take, C8.fnBody s_Processor_take, C8.fnScope s_Processor_take, [], []⟩
def D_Processor_go_on : He5.DefA := ⟨fun K => He.ma K (He.ga K "Processor") "go_on", "go_on", "Processor.go_on", C8.fnArgs s_Processor_go_on, C8.fnBody s_Processor_go_on, C8.fnScope s_Processor_go_on, [], []⟩
def D_Processor_bar_now : He5.DefA := ⟨fun K => He.ma K (He.ga K "Processor") "bar_now", "bar_now", "Processor.bar_now", C8.fnArgs s_Processor_bar_now, C8.fnBody s_Processor_bar_now, C8.fnScope s_Processor_bar_now, [], []⟩
def D_Processor_call_rows : He5.DefA := ⟨fun K => He.ma K (He.ga K "Processor") "call_rows", "call_rows", "Processor.call_rows", C8.fnArgs s_Processor_call_rows, C8.fnBody s_Processor_call_rows, C8.fnScope s_Processor_call_rows, [], []⟩
def D_Processor_work_rows : He5.DefA := ⟨fun K => He.ma K (He.ga K "Processor") "work_rows", "work_rows", "Processor.work_rows", C8.fnArgs s_Processor_work_rows, C8.fnBody s_Processor_work_rows, C8.fnScope s_Processor_work_rows, [], []⟩
def D_Processor_hand_over_works : He5.DefA := ⟨fun K => He.ma K (He.ga K "Processor") "hand_over_works", "hand_over_works", "Processor.hand_over_works", C8.fnArgs s_Processor_hand_over_works, C8.fnBody s_Processor_hand_over_works, C8.fnScope s_Processor_hand_over_works, [], []⟩
def D_Processor_lets_by : He5.DefA := ⟨fun K => He.ma K (He.ga K "Processor") "_lets_by", "_lets_by", "Processor._lets_by", C8.fnArgs s_Processor_lets_by, C8.fnBody s_Processor_lets_by, C8.fnScope s_Processor_lets_by, [], []⟩
def D_Processor_present_step : He5.DefA := ⟨fun K => He.ma K (He.ga K "Processor") "_present_step", "_present_step", "Processor._present_step", C8.fnArgs s_Processor_present_step, C8.fnBody s_Processor_present_step, C8.fnScope s_Processor_present_step, [], []⟩
def D_Processor_passes_flag : He5.DefA := ⟨fun K => He.ma K (He.ga K "Processor") "_passes_flag", "_passes_flag", "Processor._passes_flag", C8.fnArgs s_Processor_passes_flag, C8.fnBody s_Processor_passes_flag, C8.fnScope s_Processor_passes_flag, [], []⟩
def D_Processor_takes_no_tick : He5.DefA := ⟨fun K => He.ma K (He.ga K "Processor") "_takes_no_tick", "_takes_no_tick", "Processor._takes_no_tick", C8.fnArgs s_Processor_takes_no_tick, C8.fnBody s_Processor_takes_no_tick, C8.fnScope s_Processor_takes_no_tick, [], []⟩
def D_Processor_act : He5.DefA := ⟨fun K => He.ma K (He.ga K "Processor") "_act", "_act", "Processor._act", C8.fnArgs s_Processor_act, C8.fnBody s_Processor_act, C8.fnScope s_Processor_act, [], []⟩
def D_Processor_go_through : He5.DefA := ⟨fun K => He.ma K (He.ga K "Processor") "_go_through", "_go_through", "Processor._go_through", C8.fnArgs s_Processor_go_through, C8.fnBody s_Processor_go_through, C8.fnScope s_Processor_go_through, [], []⟩
def D_Processor_spend : He5.DefA := ⟨fun K => He.ma K (He.ga K "Processor") "_spend", "_spend", "Processor._spend", C8.fnArgs s_Processor_spend, C8.fnBody s_Processor_spend, C8.fnScope s_Processor_spend, [], []⟩
def D_Processor_spend_beside_calls : He5.DefA := ⟨fun K => He.ma K (He.ga K "Processor") "_spend_beside_calls", "_spend_beside_calls", "Processor._spend_beside_calls", C8.fnArgs s_Processor_spend_beside_calls, C8.fnBody s_Processor_spend_beside_calls, C8.fnScope s_Processor_spend_beside_calls, [], []⟩
def D_is_storm : He5.DefA := ⟨fun K => He.ga K "is_storm", "is_storm", "is_storm", C8.fnArgs s_is_storm, C8.fnBody s_is_storm, C8.fnScope s_is_storm, [], []⟩
def D_spoilt_storm : He5.DefA := ⟨fun K => He.ga K "spoilt_storm", "spoilt_storm", "spoilt_storm", C8.fnArgs s_spoilt_storm, C8.fnBody s_spoilt_storm, C8.fnScope s_spoilt_storm, [], []⟩
def D_StormWatch_init : He5.DefA := ⟨fun K => He.ma K (He.ga K "StormWatch") "__init__", "__init__", "StormWatch.__init__", C8.fnArgs s_StormWatch_init, C8.fnBody s_StormWatch_init, C8.fnScope s_StormWatch_init, [], []⟩
def D_StormWatch_note_begin : He5.DefA := ⟨fun K => He.ma K (He.ga K "StormWatch") "note_begin", "note_begin", "StormWatch.note_begin", C8.fnArgs s_StormWatch_note_begin, C8.fnBody s_StormWatch_note_begin, C8.fnScope s_StormWatch_note_begin, [], []⟩
def D_StormWatch_held_until : He5.DefA := ⟨fun K => He.ma K (He.ga K "StormWatch") "held_until", "held_until", "StormWatch.held_until", C8.fnArgs s_StormWatch_held_until, C8.fnBody s_StormWatch_held_until, C8.fnScope s_StormWatch_held_until, [], []⟩
def D_StormWatch_still_counted : He5.DefA := ⟨fun K => He.ma K (He.ga K "StormWatch") "_still_counted", "_still_counted", "StormWatch._still_counted", C8.fnArgs s_StormWatch_still_counted, C8.fnBody s_StormWatch_still_counted, C8.fnScope s_StormWatch_still_counted, [], []⟩
def D_House_init : He5.DefA := ⟨fun K => He.ma K (He.ga K "House") "__init__", "__init__", "House.__init__", C8.fnArgs s_House_init, C8.fnBody s_House_init, C8.fnScope s_House_init, [], [("routes", .adr (fun K => kwAt (He.ma K (He.ga K "House") "__init__") "routes" K)), ("storms", .adr (fun K => kwAt (He.ma K (He.ga K "House") "__init__") "storms" K))]⟩
def D_House_len : He5.DefA := ⟨fun K => He.ma K (He.ga K "House") "__len__", "__len__", "House.__len__", C8.fnArgs s_House_len, C8.fnBody s_House_len, C8.fnScope s_House_len, [], []⟩
def D_House_contains : He5.DefA := ⟨fun K => He.ma K (He.ga K "House") "__contains__", "__contains__", "House.__contains__", C8.fnArgs s_House_contains, C8.fnBody s_House_contains, C8.fnScope s_House_contains, [], []⟩
def D_House_getitem : He5.DefA := ⟨fun K => He.ma K (He.ga K "House") "__getitem__", "__getitem__", "House.__getitem__", C8.fnArgs s_House_getitem, C8.fnBody s_House_getitem, C8.fnScope s_House_getitem, [], []⟩
def D_House_iter : He5.DefA := ⟨fun K => He.ma K (He.ga K "House") "__iter__", "__iter__", "House.__iter__", C8.fnArgs s_House_iter, C8.fnBody s_House_iter, C8.fnScope s_House_iter, [], []⟩
def D_House_call : He5.DefA := ⟨fun K => He.ma K (He.ga K "House") "__call__", "__call__", "House.__call__", C8.fnArgs s_House_call, C8.fnBody s_House_call, C8.fnScope s_House_call, [], []⟩
def D_House_rooms : He5.DefA := ⟨fun K => He.ma K (He.ga K "House") "_rooms", "_rooms", "House._rooms", C8.fnArgs s_House_rooms, C8.fnBody s_House_rooms, C8.fnScope s_House_rooms, [], []⟩
def D_House_ring : He5.DefA := ⟨fun K => He.ma K (He.ga K "House") "ring", "ring", "House.ring", C8.fnArgs s_House_ring, C8.fnBody s_House_ring, C8.fnScope s_House_ring, [], []⟩
def D_House_quiet : He5.DefA := ⟨fun K => He.ma K (He.ga K "House") "quiet", "quiet", "House.quiet", C8.fnArgs s_House_quiet, C8.fnBody s_House_quiet, C8.fnScope s_House_quiet, [], []⟩
def D_House_mask : He5.DefA := ⟨fun K => He.ma K (He.ga K "House") "mask", "mask", "House.mask", C8.fnArgs s_House_mask, C8.fnBody s_House_mask, C8.fnScope s_House_mask, [], []⟩
def D_House_unmask : He5.DefA := ⟨fun K => He.ma K (He.ga K "House") "unmask", "unmask", "House.unmask", C8.fnArgs s_House_unmask, C8.fnBody s_House_unmask, C8.fnScope s_House_unmask, [], []⟩
def D_House_set_flag : He5.DefA := ⟨fun K => He.ma K (He.ga K "House") "set_flag", "set_flag", "House.set_flag", C8.fnArgs s_House_set_flag, C8.fnBody s_House_set_flag, C8.fnScope s_House_set_flag, [], []⟩
def D_House_clear_flag : He5.DefA := ⟨fun K => He.ma K (He.ga K "House") "clear_flag", "clear_flag", "House.clear_flag", C8.fnArgs s_House_clear_flag, C8.fnBody s_House_clear_flag, C8.fnScope s_House_clear_flag, [], []⟩
def D_House_tick : He5.DefA := ⟨fun K => He.ma K (He.ga K "House") "tick", "tick", "House.tick", C8.fnArgs s_House_tick, C8.fnBody s_House_tick, C8.fnScope s_House_tick, [], []⟩
def D_House_ticks : He5.DefA := ⟨fun K => He.ma K (He.ga K "House") "ticks", "ticks", "House.ticks", C8.fnArgs s_House_ticks, C8.fnBody s_House_ticks, C8.fnScope s_House_ticks, [], []⟩
def D_House_fate : He5.DefA := ⟨fun K => He.ma K (He.ga K "House") "fate", "fate", "House.fate", C8.fnArgs s_House_fate, C8.fnBody s_House_fate, C8.fnScope s_House_fate, [], []⟩
def D_House_setup : He5.DefA := ⟨prA "House" "setup", "setup", "House.setup", C8.fnArgs s_House_setup, C8.fnBody s_House_setup, C8.fnScope s_House_setup, [], []⟩
def D_House_routes : He5.DefA := ⟨prA "House" "routes", "routes", "House.routes", C8.fnArgs s_House_routes, C8.fnBody s_House_routes, C8.fnScope s_House_routes, [], []⟩
def D_House_storms : He5.DefA := ⟨prA "House" "storms", "storms", "House.storms", C8.fnArgs s_House_storms, C8.fnBody s_House_storms, C8.fnScope s_House_storms, [], []⟩
def D_House_now : He5.DefA := ⟨prA "House" "now", "now", "House.now", C8.fnArgs s_House_now, C8.fnBody s_House_now, C8.fnScope s_House_now, [], []⟩
def D_House_begin_counts : He5.DefA := ⟨prA "House" "begin_counts", "begin_counts", "House.begin_counts", C8.fnArgs s_House_begin_counts, C8.fnBody s_House_begin_counts, C8.fnScope s_House_begin_counts, [], []⟩
def D_House_rings : He5.DefA := ⟨prA "House" "rings", "rings", "House.rings", C8.fnArgs s_House_rings, C8.fnBody s_House_rings, C8.fnScope s_House_rings, [], []⟩
def D_House_check_line : He5.DefA := ⟨fun K => He.ma K (He.ga K "House") "_check_line", "_check_line", "House._check_line", C8.fnArgs s_House_check_line, C8.fnBody s_House_check_line, C8.fnScope s_House_check_line, [], []⟩
def D_House_check_processor : He5.DefA := ⟨fun K => He.ma K (He.ga K "House") "_check_processor", "_check_processor", "House._check_processor", C8.fnArgs s_House_check_processor, C8.fnBody s_House_check_processor, C8.fnScope s_House_check_processor, [], []⟩
def D_House_running : He5.DefA := ⟨fun K => He.ma K (He.ga K "House") "_running", "_running", "House._running", C8.fnArgs s_House_running, C8.fnBody s_House_running, C8.fnScope s_House_running, [], []⟩
def D_House_line_row : He5.DefA := ⟨fun K => He.ma K (He.ga K "House") "_line_row", "_line_row", "House._line_row", C8.fnArgs s_House_line_row, C8.fnBody s_House_line_row, C8.fnScope s_House_line_row, [], []⟩
def D_House_place : He5.DefA := ⟨fun K => He.ma K (He.ga K "House") "_place", "_place", "House._place", C8.fnArgs s_House_place, C8.fnBody s_House_place, C8.fnScope s_House_place, [], []⟩
def D_House_place_lines : He5.DefA := ⟨fun K => He.ma K (He.ga K "House") "_place_lines", "_place_lines", "House._place_lines", C8.fnArgs s_House_place_lines, C8.fnBody s_House_place_lines, C8.fnScope s_House_place_lines, [], []⟩
def D_House_note_events : He5.DefA := ⟨fun K => He.ma K (He.ga K "House") "_note_events", "_note_events", "House._note_events", C8.fnArgs s_House_note_events, C8.fnBody s_House_note_events, C8.fnScope s_House_note_events, [], []⟩
def D_House_let_go_off : He5.DefA := ⟨fun K => He.ma K (He.ga K "House") "_let_go_off", "_let_go_off", "House._let_go_off", C8.fnArgs s_House_let_go_off, C8.fnBody s_House_let_go_off, C8.fnScope s_House_let_go_off, [], []⟩
def D_House_move_works : He5.DefA := ⟨fun K => He.ma K (He.ga K "House") "_move_works", "_move_works", "House._move_works", C8.fnArgs s_House_move_works, C8.fnBody s_House_move_works, C8.fnScope s_House_move_works, [], []⟩
def D_check_house : He5.DefA := ⟨fun K => He.ga K "check_house", "check_house", "check_house", C8.fnArgs s_check_house, C8.fnBody s_check_house, C8.fnScope s_check_house, [], []⟩
def D_law_taken : He5.DefA := ⟨fun K => He.ga K "_law_taken", "_law_taken", "_law_taken", C8.fnArgs s_law_taken, C8.fnBody s_law_taken, C8.fnScope s_law_taken, [], []⟩
def D_law : He5.DefA := ⟨fun K => He.ga K "law", "law", "law", C8.fnArgs s_law, C8.fnBody s_law, C8.fnScope s_law, [], []⟩
def fn : List DefX := [((none : Option Str), D_is_integer), ((none : Option Str), D_check_number), ((none : Option Str), D_is_letters), ((none : Option Str), D_is_name), ((none : Option Str), D_is_line), ((none : Option Str), D_is_work), ((none : Option Str), D_is_step), ((none : Option Str), D_spoilt_named), ((none : Option Str), D_spoilt_line), ((none : Option Str), D_spoilt_work), ((none : Option Str), D_spoilt_handler), ((none : Option Str), D_is_route), ((none : Option Str), D_spoilt_route), ((none : Option Str), D_Router_init), ((none : Option Str), D_Router_choose), ((none : Option Str), D_Router_turned), ((none : Option Str), D_Setup_init), ((none : Option Str), D_Setup_len), ((none : Option Str), D_Setup_contains), ((none : Option Str), D_Setup_getitem), ((none : Option Str), D_Setup_lines), ((none : Option Str), D_Setup_works), ((none : Option Str), D_Setup_order), ((none : Option Str), D_check_setup), ((none : Option Str), D_put_changed), ((none : Option Str), D_check_flag), ((none : Option Str), D_Board_init), ((none : Option Str), D_Board_check_line), ((none : Option Str), D_Board_is_edge), ((none : Option Str), D_Board_ring), ((none : Option Str), D_Board_quiet), ((none : Option Str), D_Board_mask), ((none : Option Str), D_Board_unmask), ((none : Option Str), D_Board_set_flag), ((none : Option Str), D_Board_clear_flag), ((none : Option Str), D_Board_act), ((none : Option Str), D_Board_begin), ((none : Option Str), D_Board_end), ((none : Option Str), D_Board_is_up), ((none : Option Str), D_Board_is_enabled), ((none : Option Str), D_Board_is_high), ((none : Option Str), D_Board_waits), ((none : Option Str), D_Board_waiting_lines), ((none : Option Str), D_Board_ready_lines), ((none : Option Str), D_Board_raised_flags), (some ("HouseBoard" : Str), D_HouseBoard_init), (some ("HouseBoard" : Str), D_HouseBoard_ring), ((none : Option Str), D_HouseBoard_note_ring), (some ("HouseBoard" : Str), D_HouseBoard_quiet), (some ("HouseBoard" : Str), D_HouseBoard_begin), (some ("HouseBoard" : Str), D_HouseBoard_end), ((none : Option Str), D_HouseBoard_put_on), ((none : Option Str), D_HouseBoard_pass_tick), ((none : Option Str), D_HouseBoard_tick_number), ((none : Option Str), D_HouseBoard_place_of), ((none : Option Str), D_HouseBoard_owner_of), ((none : Option Str), D_HouseBoard_lines_on), ((none : Option Str), D_HouseBoard_ready_on), ((none : Option Str), D_HouseBoard_unplaced_lines), ((none : Option Str), D_HouseBoard_load_of), ((none : Option Str), D_HouseBoard_ring_rows), ((none : Option Str), D_HouseBoard_ring_fate), ((none : Option Str), D_HouseBoard_all_fates), ((none : Option Str), D_WorkQueue_init), ((none : Option Str), D_WorkQueue_rows), ((none : Option Str), D_WorkQueue_is_empty), ((none : Option Str), D_WorkQueue_put), ((none : Option Str), D_WorkQueue_drop_rows), ((none : Option Str), D_WorkQueue_spend), ((none : Option Str), D_Processor_init), ((none : Option Str), D_Processor_take), ((none : Option Str), D_Processor_go_on), ((none : Option Str), D_Processor_bar_now), ((none : Option Str), D_Processor_call_rows), ((none : Option Str), D_Processor_work_rows), ((none : Option Str), D_Processor_hand_over_works), ((none : Option Str), D_Processor_lets_by), ((none : Option Str), D_Processor_present_step), ((none : Option Str), D_Processor_passes_flag), ((none : Option Str), D_Processor_takes_no_tick), ((none : Option Str), D_Processor_act), ((none : Option Str), D_Processor_go_through), ((none : Option Str), D_Processor_spend), ((none : Option Str), D_Processor_spend_beside_calls), ((none : Option Str), D_is_storm), ((none : Option Str), D_spoilt_storm), ((none : Option Str), D_StormWatch_init), ((none : Option Str), D_StormWatch_note_begin), ((none : Option Str), D_StormWatch_held_until), ((none : Option Str), D_StormWatch_still_counted), ((none : Option Str), D_House_init), ((none : Option Str), D_House_len), ((none : Option Str), D_House_contains), ((none : Option Str), D_House_getitem), ((none : Option Str), D_House_iter), ((none : Option Str), D_House_call), ((none : Option Str), D_House_rooms), ((none : Option Str), D_House_ring), ((none : Option Str), D_House_quiet), ((none : Option Str), D_House_mask), ((none : Option Str), D_House_unmask), ((none : Option Str), D_House_set_flag), ((none : Option Str), D_House_clear_flag), ((none : Option Str), D_House_tick), ((none : Option Str), D_House_ticks), ((none : Option Str), D_House_fate), ((none : Option Str), D_House_setup), ((none : Option Str), D_House_routes), ((none : Option Str), D_House_storms), ((none : Option Str), D_House_now), ((none : Option Str), D_House_begin_counts), ((none : Option Str), D_House_rings), ((none : Option Str), D_House_check_line), ((none : Option Str), D_House_check_processor), ((none : Option Str), D_House_running), ((none : Option Str), D_House_line_row), ((none : Option Str), D_House_place), ((none : Option Str), D_House_place_lines), ((none : Option Str), D_House_note_events), ((none : Option Str), D_House_let_go_off), ((none : Option Str), D_House_move_works), ((none : Option Str), D_check_house), ((none : Option Str), D_law_taken), ((none : Option Str), D_law)]
def tsM : List He.Tab := [(fun K => He.ga K "ARGUMENTS", ["run", "ring", "quiet", "mask", "unmask", "set", "clear", "await", "bar", "later"])]
def nm0 : List Str := [("_wall" : Str), ("BellError" : Str), ("InvalidSetup" : Str), ("UnknownLine" : Str), ("NotLevel" : Str), ("InvalidNumber" : Str), ("InvalidFlag" : Str), ("InvalidHouse" : Str), ("UnknownProcessor" : Str), ("KINDS" : Str), ("MAX_LETTERS" : Str), ("MAX_RANK" : Str), ("MAX_STEPS" : Str), ("MAX_TICKS" : Str), ("ARGUMENTS" : Str), ("is_integer" : Str), ("check_number" : Str), ("is_letters" : Str), ("is_name" : Str), ("is_line" : Str), ("is_work" : Str), ("is_step" : Str), ("spoilt_named" : Str), ("spoilt_line" : Str), ("spoilt_work" : Str), ("spoilt_handler" : Str), ("RULES" : Str), ("is_route" : Str), ("spoilt_route" : Str), ("Router" : Str), ("Setup" : Str), ("check_setup" : Str), ("put_changed" : Str), ("check_flag" : Str), ("Board" : Str)]
def nm1 : List Str := [("HouseBoard" : Str), ("WorkQueue" : Str), ("CALLED" : Str), ("SPUN" : Str), ("WORKED" : Str), ("IDLE" : Str), ("Processor" : Str), ("MAX_STORM" : Str), ("is_storm" : Str), ("spoilt_storm" : Str), ("StormWatch" : Str), ("MAX_PROCESSORS" : Str), ("MOST_TICKS" : Str), ("House" : Str), ("check_house" : Str), ("_law_taken" : Str)]
def nms : List Str := nm0 ++ nm1
def fnp1 : List DefX := [((none : Option Str), D_is_integer), ((none : Option Str), D_check_number), ((none : Option Str), D_is_letters), ((none : Option Str), D_is_name), ((none : Option Str), D_is_line), ((none : Option Str), D_is_work), ((none : Option Str), D_is_step), ((none : Option Str), D_spoilt_named), ((none : Option Str), D_spoilt_line), ((none : Option Str), D_spoilt_work), ((none : Option Str), D_spoilt_handler), ((none : Option Str), D_is_route), ((none : Option Str), D_spoilt_route), ((none : Option Str), D_Router_init), ((none : Option Str), D_Router_choose), ((none : Option Str), D_Router_turned), ((none : Option Str), D_Setup_init), ((none : Option Str), D_Setup_len), ((none : Option Str), D_Setup_contains), ((none : Option Str), D_Setup_getitem), ((none : Option Str), D_Setup_lines), ((none : Option Str), D_Setup_works), ((none : Option Str), D_Setup_order), ((none : Option Str), D_check_setup), ((none : Option Str), D_put_changed), ((none : Option Str), D_check_flag), ((none : Option Str), D_Board_init), ((none : Option Str), D_Board_check_line), ((none : Option Str), D_Board_is_edge), ((none : Option Str), D_Board_ring), ((none : Option Str), D_Board_quiet), ((none : Option Str), D_Board_mask), ((none : Option Str), D_Board_unmask), ((none : Option Str), D_Board_set_flag), ((none : Option Str), D_Board_clear_flag), ((none : Option Str), D_Board_act), ((none : Option Str), D_Board_begin), ((none : Option Str), D_Board_end), ((none : Option Str), D_Board_is_up), ((none : Option Str), D_Board_is_enabled), ((none : Option Str), D_Board_is_high), ((none : Option Str), D_Board_waits)]
def fnp2 : List DefX := [((none : Option Str), D_Board_waiting_lines), ((none : Option Str), D_Board_ready_lines), ((none : Option Str), D_Board_raised_flags), (some ("HouseBoard" : Str), D_HouseBoard_init), (some ("HouseBoard" : Str), D_HouseBoard_ring), ((none : Option Str), D_HouseBoard_note_ring), (some ("HouseBoard" : Str), D_HouseBoard_quiet), (some ("HouseBoard" : Str), D_HouseBoard_begin), (some ("HouseBoard" : Str), D_HouseBoard_end), ((none : Option Str), D_HouseBoard_put_on), ((none : Option Str), D_HouseBoard_pass_tick), ((none : Option Str), D_HouseBoard_tick_number), ((none : Option Str), D_HouseBoard_place_of), ((none : Option Str), D_HouseBoard_owner_of), ((none : Option Str), D_HouseBoard_lines_on), ((none : Option Str), D_HouseBoard_ready_on), ((none : Option Str), D_HouseBoard_unplaced_lines), ((none : Option Str), D_HouseBoard_load_of), ((none : Option Str), D_HouseBoard_ring_rows), ((none : Option Str), D_HouseBoard_ring_fate), ((none : Option Str), D_HouseBoard_all_fates), ((none : Option Str), D_WorkQueue_init), ((none : Option Str), D_WorkQueue_rows), ((none : Option Str), D_WorkQueue_is_empty), ((none : Option Str), D_WorkQueue_put), ((none : Option Str), D_WorkQueue_drop_rows), ((none : Option Str), D_WorkQueue_spend), ((none : Option Str), D_Processor_init), ((none : Option Str), D_Processor_take), ((none : Option Str), D_Processor_go_on), ((none : Option Str), D_Processor_bar_now), ((none : Option Str), D_Processor_call_rows), ((none : Option Str), D_Processor_work_rows), ((none : Option Str), D_Processor_hand_over_works), ((none : Option Str), D_Processor_lets_by), ((none : Option Str), D_Processor_present_step), ((none : Option Str), D_Processor_passes_flag), ((none : Option Str), D_Processor_takes_no_tick), ((none : Option Str), D_Processor_act), ((none : Option Str), D_Processor_go_through), ((none : Option Str), D_Processor_spend), ((none : Option Str), D_Processor_spend_beside_calls)]
def fnp3 : List DefX := [((none : Option Str), D_is_storm), ((none : Option Str), D_spoilt_storm), ((none : Option Str), D_StormWatch_init), ((none : Option Str), D_StormWatch_note_begin), ((none : Option Str), D_StormWatch_held_until), ((none : Option Str), D_StormWatch_still_counted), ((none : Option Str), D_House_init), ((none : Option Str), D_House_len), ((none : Option Str), D_House_contains), ((none : Option Str), D_House_getitem), ((none : Option Str), D_House_iter), ((none : Option Str), D_House_call), ((none : Option Str), D_House_rooms), ((none : Option Str), D_House_ring), ((none : Option Str), D_House_quiet), ((none : Option Str), D_House_mask), ((none : Option Str), D_House_unmask), ((none : Option Str), D_House_set_flag), ((none : Option Str), D_House_clear_flag), ((none : Option Str), D_House_tick), ((none : Option Str), D_House_ticks), ((none : Option Str), D_House_fate), ((none : Option Str), D_House_setup), ((none : Option Str), D_House_routes), ((none : Option Str), D_House_storms), ((none : Option Str), D_House_now), ((none : Option Str), D_House_begin_counts), ((none : Option Str), D_House_rings), ((none : Option Str), D_House_check_line), ((none : Option Str), D_House_check_processor), ((none : Option Str), D_House_running), ((none : Option Str), D_House_line_row), ((none : Option Str), D_House_place), ((none : Option Str), D_House_place_lines), ((none : Option Str), D_House_note_events), ((none : Option Str), D_House_let_go_off), ((none : Option Str), D_House_move_works), ((none : Option Str), D_check_house), ((none : Option Str), D_law_taken), ((none : Option Str), D_law)]
abbrev R : PySem.W.OpenRow := PySem.W.OpenLaw.row PySem.Challenge.rw_callbells_k65_whole_levels
def obG (ex : PySem.W.Frag → Bool) (fn : List DefX) (ts : List He.Tab) (s : PySem.W.SharedT) : AlM := obsMG 5 ex fn ts (HandSHeadRun.getT s)
def exP (i j : Nat) (K : PySem.W.Frag) : Bool := (((exL K).drop i).take j).all id
def exZ (i : Nat) (K : PySem.W.Frag) : Bool := ((exL K).drop i).all id
theorem ex_step {K : PySem.W.Frag} {i j : Nat} (h1 : exP i j K = true) (h2 : exZ (i + j) K = true) : exZ i K = true := by
  unfold exZ exP at *
  rw [← List.take_append_drop j ((exL K).drop i), List.all_append, h1, List.drop_drop, h2]
  rfl
def exT0 (K : PySem.W.Frag) : Bool := exP 0 64 K
def exT1 (K : PySem.W.Frag) : Bool := exP 64 64 K
def exT2 (K : PySem.W.Frag) : Bool := exP 128 64 K
def exT3 (K : PySem.W.Frag) : Bool := exZ 192 K
def exT (K : PySem.W.Frag) : Bool := (((exT0 K && exT1 K) && exT2 K) && exT3 K)
theorem ex_of {K : PySem.W.Frag} (h : exT K = true) : exM K = true := by
  obtain ⟨h2, k3⟩ := He.ba (show (_ && exT3 K) = true from h)
  obtain ⟨h1, k2⟩ := He.ba (show (_ && exT2 K) = true from h2)
  obtain ⟨h0, k1⟩ := He.ba (show (_ && exT1 K) = true from h1)
  have z : exZ 0 K = true := ex_step (i := 0) (j := 64) h0 (ex_step (i := 64) (j := 64) k1 (ex_step (i := 128) (j := 64) k2 k3))
  exact z
abbrev hk : PySem.W.Hook := hookM 5 exT fn tsM
abbrev ob : PySem.W.SharedT → AlM := obG exT fn tsM
theorem cast_fn {ex : PySem.W.Frag → Bool} {f g : List DefX} {ts : List He.Tab} {r : PySem.W.OpenRow} {q : Program} {M : Nat} {loose : List PySem.Str} {w : World} (e : f = g) (z : HandSHeadRun.RunEq r q (hookM 5 ex g ts) (obG ex g ts) M loose w) : HandSHeadRun.RunEq r q (hookM 5 ex f ts) (obG ex f ts) M loose w := by
  subst e
  exact z
theorem fn_eq : fn = (((([] : List DefX) ++ fnp1) ++ fnp2) ++ fnp3) := rfl
theorem ob_eq (s : PySem.W.SharedT) : ob s = hk.obs s.abs := obsMG_eq (HandSHeadRun.getT_eq s)
theorem obs_join {ex ex2 : PySem.W.Frag → Bool} {f1 f2 : List DefX} {ts : List He.Tab} {w : World} {K : PySem.W.Frag} (h1 : obsM ex f1 ts K = valM f1 ts w) (h2 : obsM ex2 f2 [] K = valM f2 [] w) : obsM (fun K => ex K && ex2 K) (f1 ++ f2) ts K = valM (f1 ++ f2) ts w := by
  have a : (ex K && f1.all (okX K)) = true := congrArg (fun z : AlM => z.1.1) h1
  have a2 : f1.map (obX K) = f1.map vaX := congrArg (fun z : AlM => z.1.2) h1
  have b := congrArg (fun z : AlM => z.2) h1
  have c : (ex2 K && f2.all (okX K)) = true := congrArg (fun z : AlM => z.1.1) h2
  have d : f2.map (obX K) = f2.map vaX := congrArg (fun z : AlM => z.1.2) h2
  obtain ⟨a3, a4⟩ := He.ba a
  obtain ⟨c3, c4⟩ := He.ba c
  refine Prod.ext (Prod.ext ?_ ?_) b
  · show ((ex K && ex2 K) && (f1 ++ f2).all (okX K)) = true
    rw [List.all_append, a3, a4, c3, c4]
    rfl
  · show (f1 ++ f2).map (obX K) = (f1 ++ f2).map vaX
    rw [List.map_append, List.map_append, a2, d]
theorem join {ex ex2 : PySem.W.Frag → Bool} {f1 f2 : List DefX} {ts : List He.Tab} {r : PySem.W.OpenRow} {q : Program} {M : Nat} {loose : List PySem.Str} {w : World} (z1 : HandSHeadRun.RunEq r q (hookM 5 ex f1 ts) (obG ex f1 ts) M loose w) (z2 : HandSHeadRun.RunEq r q (hookM 5 ex2 f2 []) (obG ex2 f2 []) M loose w) : HandSHeadRun.RunEq r q (hookM 5 (fun K => ex K && ex2 K) (f1 ++ f2) ts) (obG (fun K => ex K && ex2 K) (f1 ++ f2) ts) M loose w := by
  intro os
  have a := z1 os
  have b := z2 os
  revert a b
  generalize HandSHeadRun.endF (HandSHeadRun.stepQ (HandSHeadRun.denQ HandSHeadRun.tabQ) r.prog w) M r.prog w os = X
  intro a b
  cases X with
  | none => cases a
  | some s =>
    have a := Option.some.inj a
    have b := Option.some.inj b
    have a1 := congrArg Prod.fst a
    have a2 := congrArg (fun z => z.2.1) a
    have a3 := congrArg (fun z => z.2.2) a
    have b3 := congrArg (fun z => z.2.2) b
    refine congrArg some (Prod.ext a1 (Prod.ext a2 ?_))
    exact obs_join a3 b3
theorem run_f0 (w : World) : HandSHeadRun.RunEq R (PySem.W.view R.prog [62]) (hookM 5 exT0 [] tsM) (obG exT0 [] tsM) 30000 nms (w.withFollow "special-get-raises" false) := by
  intro os
  kernel_rfl
theorem run_f1 (w : World) : HandSHeadRun.RunEq R (PySem.W.view R.prog [62]) (hookM 5 exT1 fnp1 []) (obG exT1 fnp1 []) 30000 nms (w.withFollow "special-get-raises" false) := by
  intro os
  kernel_rfl
theorem run_f2 (w : World) : HandSHeadRun.RunEq R (PySem.W.view R.prog [62]) (hookM 5 exT2 fnp2 []) (obG exT2 fnp2 []) 30000 nms (w.withFollow "special-get-raises" false) := by
  intro os
  kernel_rfl
theorem run_f3 (w : World) : HandSHeadRun.RunEq R (PySem.W.view R.prog [62]) (hookM 5 exT3 fnp3 []) (obG exT3 fnp3 []) 30000 nms (w.withFollow "special-get-raises" false) := by
  intro os
  kernel_rfl
theorem run_f (w : World) : HandSHeadRun.RunEq R (PySem.W.view R.prog [62]) (hookM 5 exT fn tsM) (obG exT fn tsM) 30000 nms (w.withFollow "special-get-raises" false) := cast_fn fn_eq (join (join (join (run_f0 w) (run_f1 w)) (run_f2 w)) (run_f3 w))
theorem run_t0 (w : World) : HandSHeadRun.RunEq R (PySem.W.view R.prog [62]) (hookM 5 exT0 [] tsM) (obG exT0 [] tsM) 30000 nms (w.withFollow "special-get-raises" true) := by
  intro os
  kernel_rfl
theorem run_t1 (w : World) : HandSHeadRun.RunEq R (PySem.W.view R.prog [62]) (hookM 5 exT1 fnp1 []) (obG exT1 fnp1 []) 30000 nms (w.withFollow "special-get-raises" true) := by
  intro os
  kernel_rfl
theorem run_t2 (w : World) : HandSHeadRun.RunEq R (PySem.W.view R.prog [62]) (hookM 5 exT2 fnp2 []) (obG exT2 fnp2 []) 30000 nms (w.withFollow "special-get-raises" true) := by
  intro os
  kernel_rfl
theorem run_t3 (w : World) : HandSHeadRun.RunEq R (PySem.W.view R.prog [62]) (hookM 5 exT3 fnp3 []) (obG exT3 fnp3 []) 30000 nms (w.withFollow "special-get-raises" true) := by
  intro os
  kernel_rfl
theorem run_t (w : World) : HandSHeadRun.RunEq R (PySem.W.view R.prog [62]) (hookM 5 exT fn tsM) (obG exT fn tsM) 30000 nms (w.withFollow "special-get-raises" true) := cast_fn fn_eq (join (join (join (run_t0 w) (run_t1 w)) (run_t2 w)) (run_t3 w))
theorem run (w : World) : HandSHeadRun.RunEq R (PySem.W.view R.prog [62]) hk ob 30000 nms w :=
  PySem.W.byRow2 "special-get-raises" (P := fun w => HandSHeadRun.RunEq R (PySem.W.view R.prog [62]) hk ob 30000 nms w) run_f run_t w
end Cb

namespace Cb
open PySem PySem.Spec PyProof.Rows L2
section
variable {X : Cx} {k j : Nat} {C : Addr} {sp : Sp}
theorem C_nin (M : C8.Met X.prog X.w X.K X.mg X.base k C "__contains__" sp []) (hr : Room j X.A) (hj : k ≤ j) : OpR X (compareOp .NotIn) (rOwnB C sp C8.E0 not) := by
  obtain ⟨f, fd, ps, ds, hc, hm, F, hb, hv⟩ := M.ex
  cases hv
  exact op_ninOwn F (hr.mono hj) hb (fun _ _ _ _ _ _ _ h => h.elim) hm.at_ hm.fn
theorem C_in (M : C8.Met X.prog X.w X.K X.mg X.base k C "__contains__" sp []) (hr : Room j X.A) (hj : k ≤ j) : OpR X (compareOp .In) (rOwnB C sp C8.E0 id) := by
  obtain ⟨f, fd, ps, ds, hc, hm, F, hb, hv⟩ := M.ex
  cases hv
  exact op_inOwn F (hr.mono hj) hb (fun _ _ _ _ _ _ _ h => h.elim) hm.at_ hm.fn
theorem C_ix {a b : Expr} {ta tb : TE} {pos : Pos} {f0 : Addr} (h0 : Meth X.K C "__getitem__" f0) (h1 : PySem.W.fnIn X.K f0 = true) (M : C8.Met X.prog X.w X.K X.mg X.base k C "__getitem__" sp []) (hr : Room j X.A) (hj : k + 1 ≤ j) (ha : PE X a ta) (hi : PE X b tb)
    (hsl : ∀ o i, subscripted b true o i = runValue (.builtin "lifetime.subscript" ⟨[o, i], []⟩) := by intro _ _; rfl) : PE X (.Subscript a b pos) (tOp (rOwnI C sp C8.E0) ta tb) := by
  obtain ⟨f, fd, ps, ds, hc, hm, F, hb, hv⟩ := M.ex
  cases hv
  have e : f0 = f := by
    have z := h0.at_.symm.trans hm.at_
    injection z with z
    injection z with z
    injection z
  subst e
  exact pe_ixOwn F (hr.mono hj) hb (fun _ _ _ _ _ _ _ h => h.elim) hm.at_ hm.fn h1 ha hi hsl
theorem C_prop {e : Expr} {ta : TE} {f : Str} {p g : Addr} {pos : Pos} (hp : PropOf X.K C f p g) (hc : Cls X.K C) (M : FnP X.prog X.w X.K X.mg X.base k g sp) (hr : Room j X.A) (hj : k + 1 ≤ j) (he : PE X e ta) (hb2 : attributeBase e f X.env (eval e X.env) = eval e X.env := by rfl) : PE X (.Attribute e f pos) (tProp C sp [] C8.E0 ta) := by
  obtain ⟨fd, ps, F, hb⟩ := M.ex
  exact pe_prop he hc hp F (hr.mono hj) hb .nil (fun _ _ _ _ _ _ _ h => h.elim) hb2
end
end Cb

/-! len(x) by an own class's __len__ -/
namespace Cb
open PySem PySem.Spec PyProof.Rows L2
section
variable {X : Cx} {CX : CXT} {k j : Nat} {C f : Addr} {fd : FuncData} {ps : List Str} {sp : Sp} {E : XK}
def rLenO (C : Addr) (sp : Sp) (E : XK) : List V → Hp → VK → Prop := fun xs H Q => ∃ a dx fs, xs = [.ref a] ∧ H a = some (.ins C dx fs) ∧ sp [.ref a] H (fun v H' => ∃ n : Int, v = .int n ∧ 0 ≤ n ∧ n < 2 ^ 63 ∧ Q (.int n) H') E
theorem call_lenOwn (F : FnOk X.prog X.w X.K X.mg X.base CX k f fd ps sp) (hr : Room (k + 1) X.A) (hb : Binds X.K fd ps []) (hx : Passes CX X E)
    (hs : PySem.W.findIn X.K (.ref C) "__len__" = some (some (.ref f))) (hf : PySem.W.isFn X.K (.ref f) = true) : CallR X (.builtin "len") (rLenO C sp E) := by
  intro pins s σ H xs us Q I r h
  obtain ⟨a, dx, fs, rfl, hA, hq⟩ := h
  rw [Vals.ref1 r]
  obtain ⟨_, J0, _⟩ := ins_get I.hok hA
  obtain ⟨_, J, _⟩ := J0.look
  obtain ⟨m, hF⟩ := I.fr
  refine PySem.W.len_K hF I.ok.mod.kin J hs hf ?_
  have r2 : Vals [V.ref a] [Value.ref a] := .cons rfl .nil
  have hl : ([Value.ref a] : List Value).length = ps.length := F.len _ _ _ _ hq
  have bt := hb s [Value.ref a] I.kIn (by simpa using hl)
  rw [List.append_nil] at bt
  refine wpAny_call (codeAny_mono (F.run X.A.in1 X.stack s H ⟨[.ref a], []⟩ _ _ _ E hr.in1 I.env0.in1 bt r2 hq) fun r s' z => ?_)
  cases r with
  | error e => exact hx pins σ H s e s' I z
  | ok fl => cases fl with
    | ret w =>
      obtain ⟨r, H1, I1, rw1, n, rfl, h0, h1, q⟩ := I.after z
      obtain ⟨t, rfl⟩ := rw1
      exact ⟨⟨h0, h1⟩, ⟨.int n, H1, I1.tok _, ⟨_, rfl⟩, q⟩⟩
    | _ => exact False.elim z
theorem C_len (M : C8.Met X.prog X.w X.K X.mg X.base k C "__len__" sp []) (hr : Room j X.A) (hj : k + 1 ≤ j) : CallR X (.builtin "len") (rLenO C sp C8.E0) := by
  obtain ⟨f, fd, ps, ds, hc, hm, F, hb, hv⟩ := M.ex
  cases hv
  exact call_lenOwn F (hr.mono hj) hb (fun _ _ _ _ _ _ _ h => h.elim) hm.at_ hm.fn
end
end Cb

namespace Cb
open PySem PySem.Spec PyProof.Rows L2

def sp_is_integer : Sp := fun vs H Q _ => ∃ i lo hi : Int, vs = [.int i, .int lo, .int hi] ∧ Q (.bl (decide (lo ≤ i) && decide (i ≤ hi))) H
def sp_check_number : Sp := fun vs H Q _ => ∃ i lo hi : Int, vs = [.int i, .int lo, .int hi] ∧ lo ≤ i ∧ i ≤ hi ∧ Q .non H
def sp_check_flag : Sp := fun vs H Q _ => ∃ f : Nat, vs = [.int (f : Nat)] ∧ f ≤ 7 ∧ Q .non H
def sp_is_letters : Sp := fun vs H Q _ => ∃ x : Str, vs = [.str x] ∧ Q (.bl (letters x)) H
def sp_is_name : Sp := fun vs H Q _ => ∃ x : Str, vs = [.str x] ∧ x.length ≤ sizeLine ∧ Q (.bl (decide ((x.length : Int) ≤ 8) && letters x)) H
def sp_Setup_contains (K : PySem.W.Frag) : Sp := fun vs H Q _ => ∃ (su : Addr) (S : SetD) (n : Str), vs = [.ref su, .str n] ∧ SetupAt K H su S ∧ SetOk S ∧ Q (.bl (decide (n ∈ S.ls.map (·.name)))) H
def sp_Setup_getitem (K : PySem.W.Frag) : Sp := fun vs H Q _ => ∃ (su : Addr) (S : SetD) (l : LineD) (K0 : Hp), vs = [.ref su, .str l.name] ∧ SetupAt K K0 su S ∧ Same K0 H ∧ SetOk S ∧ l ∈ S.ls ∧ ∀ v, LineAt K K0 v l → Q v H
def sp_Setup_order (K : PySem.W.Frag) : Sp := fun vs H Q _ => ∃ (su : Addr) (S : SetD) (K0 : Hp), vs = [.ref su] ∧ SetupAt K K0 su S ∧ Same K0 H ∧ ∀ oa, K0 oa = some (.tup (S.order.map V.str)) → Q (.ref oa) H
def sp_Setup_works (K : PySem.W.Frag) : Sp := fun vs H Q _ => ∃ (su : Addr) (S : SetD) (K0 : Hp), vs = [.ref su] ∧ SetupAt K K0 su S ∧ Same K0 H ∧ ∀ wa, WorksAt K K0 wa S.ws → Q (.ref wa) H
/-- put_changed on a dict of flags by names, and on a list of flags -/
def sp_put_changed : Sp := fun vs H Q _ => (∃ (a : Addr) (n : Str) (b : Bool) (o : List Str) (f : Str → Bool), vs = [.ref a, .str n, .bl b] ∧ H a = some (.dK (bd o f)) ∧ n ∈ o ∧ o.length ≤ 12 ∧ Q (.bl (!decide (V.bl (f n) = V.bl b))) (upd H a (.dK (bd o (fset f n b)))))

section
variable {P : Program} {w : World} {K : PySem.W.Frag} {mg : Str → Option Value} {base : Heap}

abbrev N_is_integer : List Str := ["value", "low", "high"]
theorem sc_is_integer : FnScope N_is_integer ["value", "low", "high"] (C8.fnScope s_is_integer) := C8.fnScope_by (by decide +kernel)
theorem ok_is_integer {fd : FuncData} (T : Txt K mg) (F : FunD K "is_integer" "is_integer" (C8.fnArgs s_is_integer) (C8.fnBody s_is_integer) (C8.fnScope s_is_integer) [] [] (He.ga K "is_integer") fd) :
    C8.Cal P w K mg base 1 "is_integer" sp_is_integer [] := by
  refine C8.cal0 (ds := []) ⟨fun_c8 F, T.f_is_integer, F.kp⟩ (F.bindsN fun _ _ _ _ _ _ us hl => match us, hl with | [_, _, _], _ => rfl) .nil sc_is_integer (fun vs H Q E h => ?_) (fun cdv A outer s H vs Q E hr h => ?_)
  · obtain ⟨_, _, _, rfl, _⟩ := h
    rfl
  · have nd := sc_is_integer.nd
    have hu := hu_of hr
    obtain ⟨i, lo, hi, rfl, q⟩ := h
    refine ⟨_, (pss_one (ps_ret (pe_and (pe_callB call_is (by rfl) T.n_isinstance (by decide +kernel) (pa_cons (pv 0) (pa_cons (pe_bltn (v := .ty "int") rfl T.n_int (by decide +kernel) rfl) pa_nil))) (pe_and (pe_not (pe_callB call_is (by rfl) T.n_isinstance (by decide +kernel) (pa_cons (pv 0) (pa_cons (pe_bltn (v := .ty "bool") rfl T.n_bool (by decide +kernel) rfl) pa_nil)))) (pe_one (pe_chain op_le op_le (pv 1) (pv 0) (pv 2))))))), ?_⟩
    refine ⟨_, rfl, _, _, _, _, rfl, ty_int, kb1, true, rfl, iteT ?_⟩
    refine ⟨_, rfl, _, _, _, _, rfl, ty_int, kb2, false, rfl, true, rfl, iteT ?_⟩
    refine ⟨_, rfl, _, rfl, _, _, rfl, rfl, _, rfl, ?_⟩
    cases e1 : decide (lo ≤ i) with
    | true =>
      rw [e1] at q
      refine iteT ⟨_, rfl, _, _, rfl, rfl, ?_⟩
      rw [Bool.true_and] at q
      exact q
    | false =>
      rw [e1, Bool.false_and] at q
      exact iteF q
abbrev N_check_number : List Str := ["value", "low", "high"]
theorem sc_check_number : FnScope N_check_number ["value", "low", "high"] (C8.fnScope s_check_number) := C8.fnScope_by (by decide +kernel)
theorem ok_check_number {fd : FuncData} (T : Txt K mg) (F : FunD K "check_number" "check_number" (C8.fnArgs s_check_number) (C8.fnBody s_check_number) (C8.fnScope s_check_number) [] [] (He.ga K "check_number") fd) (c_is_integer : C8.Cal P w K mg base 1 "is_integer" sp_is_integer []) :
    C8.Cal P w K mg base 2 "check_number" sp_check_number [] := by
  refine C8.cal0 (ds := []) ⟨fun_c8 F, T.f_check_number, F.kp⟩ (F.bindsN fun _ _ _ _ _ _ us hl => match us, hl with | [_, _, _], _ => rfl) .nil sc_check_number (fun vs H Q E h => ?_) (fun cdv A outer s H vs Q E hr h => ?_)
  · obtain ⟨_, _, _, rfl, _⟩ := h
    rfl
  · have nd := sc_check_number.nd
    have hu := hu_of hr
    obtain ⟨i, lo, hi, rfl, h1, h2, q⟩ := h
    refine ⟨_, (pss_one (ps_if (pt_not (pt_val (C8.pe_c c_is_integer hr (by decide) rfl (pa_cons (pv 0) (pa_cons (pv 1) (pa_cons (pv 2) pa_nil)))))) (pss_one ps_never) pss_nil)), ?_⟩
    refine ⟨_, rfl, _, rfl, _, rfl, _, _, _, rfl, true, by simp [h1, h2], iteF q⟩
abbrev N_check_flag : List Str := ["flag"]
theorem sc_check_flag : FnScope N_check_flag ["flag"] (C8.fnScope s_check_flag) := C8.fnScope_by (by decide +kernel)
theorem ok_check_flag {fd : FuncData} (T : Txt K mg) (F : FunD K "check_flag" "check_flag" (C8.fnArgs s_check_flag) (C8.fnBody s_check_flag) (C8.fnScope s_check_flag) [] [] (He.ga K "check_flag") fd) (c_is_integer : C8.Cal P w K mg base 1 "is_integer" sp_is_integer []) :
    C8.Cal P w K mg base 2 "check_flag" sp_check_flag [] := by
  refine C8.cal0 (ds := []) ⟨fun_c8 F, T.f_check_flag, F.kp⟩ (F.bindsN fun _ _ _ _ _ _ us hl => match us, hl with | [_], _ => rfl) .nil sc_check_flag (fun vs H Q E h => ?_) (fun cdv A outer s H vs Q E hr h => ?_)
  · obtain ⟨_, rfl, _⟩ := h
    rfl
  · have nd := sc_check_flag.nd
    have hu := hu_of hr
    obtain ⟨f, rfl, h7, q⟩ := h
    refine ⟨_, (pss_one (ps_if (pt_not (pt_val (C8.pe_c c_is_integer hr (by decide) rfl (pa_cons (pv 0) (pa_cons pe_int (pa_cons (ClX.pe_cval (pe_glob (v := .ref (aC "Setup" K)) rfl T.g_Setup rfl)) pa_nil)))))) (pss_one ps_never) pss_nil)), ?_⟩
    obtain ⟨u3, c3⟩ := T.c_Setup_MAX_FLAG
    refine ⟨_, rfl, _, _, _, _, rfl, T.r_Setup, c3, _, _, _, rfl, true, congrArg V.bl (by simp; omega), iteF q⟩
abbrev N_put_changed : List Str := ["table", "at", "value", "was"]
theorem sc_put_changed : FnScope N_put_changed ["table", "at", "value"] (C8.fnScope s_put_changed) := C8.fnScope_by (by decide +kernel)
theorem ok_put_changed {fd : FuncData} (T : Txt K mg) (F : FunD K "put_changed" "put_changed" (C8.fnArgs s_put_changed) (C8.fnBody s_put_changed) (C8.fnScope s_put_changed) [] [] (He.ga K "put_changed") fd) :
    C8.Cal P w K mg base 1 "put_changed" sp_put_changed [] := by
  refine C8.cal0 (ds := []) ⟨fun_c8 F, T.f_put_changed, F.kp⟩ (F.bindsN fun _ _ _ _ _ _ us hl => match us, hl with | [_, _, _], _ => rfl) .nil sc_put_changed (fun vs H Q E h => ?_) (fun cdv A outer s H vs Q E hr h => ?_)
  · obtain ⟨_, _, _, _, _, rfl, _⟩ := h
    rfl
  · have nd := sc_put_changed.nd
    have hu := hu_of hr
    obtain ⟨a, n, b, o, f, rfl, ha, hn, hl, q⟩ := h
    refine ⟨_, (pss_cons (ps_set (i := 3) nd rfl (Or.inl rfl) (pe_dget hu (pv 0) (pv 1) (fun _ _ => rfl)))
      (pss_cons (ps_dput hu (pv 0) (pv 1) (pv 2) rfl)
      (pss_one (ps_ret (pe_cmpR op_ne (pv 3) (pv 2) (nomark _)))))), ?_⟩
    refine ⟨_, rfl, _, rfl, a, _, rfl, bd_at hn ▸ DGet.k (k := .inr n) ha, ?_⟩
    have dp := DPut.k (k := .inr n) (v := .bl b) ha (sml (m := 12) (by simpa [bd] using hl) (by decide))
    rw [putK_bd hn] at dp
    exact ⟨_, rfl, _, rfl, _, rfl, a, _, rfl, dp, _, rfl, _, rfl, rfl, q⟩
abbrev N_Setup_contains : List Str := ["self", "x"]
theorem sc_Setup_contains : FnScope N_Setup_contains ["self", "x"] (C8.fnScope s_Setup_contains) := C8.fnScope_by (by decide +kernel)
theorem ok_Setup_contains {fd : FuncData} (T : Txt K mg) (F : FunD K "__contains__" "Setup.__contains__" (C8.fnArgs s_Setup_contains) (C8.fnBody s_Setup_contains) (C8.fnScope s_Setup_contains) [] [] (He.ma K (aC "Setup" K) "__contains__") fd) :
    C8.Met P w K mg base 1 (aC "Setup" K) "__contains__" (sp_Setup_contains K) [] := by
  refine C8.met0 T.cl_Setup T.m_Setup_contains (fun_c8 F) (F.bindsN fun _ _ _ _ _ _ us hl => match us, hl with | [_, _], _ => rfl) sc_Setup_contains (fun vs H Q E h => ?_) (fun cdv A outer s H vs Q E hr h => ?_)
  · obtain ⟨_, _, _, rfl, _⟩ := h
    rfl
  · have nd := sc_Setup_contains.nd
    have hu := hu_of hr
    obtain ⟨su, S, n, rfl, ⟨dx, la, wa, bn, oa, xs, h1, h2, h3, h4, h5, h6⟩, ok, q⟩ := h
    refine ⟨_, (pss_one (ps_ret (pe_and (pe_callB call_is (by rfl) T.n_isinstance (by decide +kernel) (pa_cons (pv 1) (pa_cons (pe_bltn (v := .ty "str") rfl T.n_str (by decide +kernel) rfl) pa_nil))) (pe_one (pe_cmp (pc_din hu (pv 1) (pe_fld (pv 0) rfl)) rfl))))), ?_⟩
    refine ⟨_, rfl, _, _, _, _, rfl, ty_str, kb3, true, rfl, iteT ?_⟩
    refine ⟨_, rfl, _, rfl, _, _, _, _, _, rfl, h1, T.cl_Setup, T.t_Setup_by_name, rfl, _, valV (byN S.ls xs) (.inr n), rfl, DGet.k (k := .inr n) h4, ?_⟩
    by_cases hm : n ∈ S.ls.map (·.name)
    · rw [decide_eq_true hm] at q
      obtain ⟨l, hl, rfl⟩ := List.mem_map.mp hm
      obtain ⟨i, hi⟩ := List.mem_iff_getElem?.mp hl
      obtain ⟨v, hv, _⟩ := pgetr h5 hi
      rw [byN_at ok.ok.nd hi hv]
      exact q
    · rw [decide_eq_false hm] at q
      rw [byN_no hm]
      exact q
abbrev N_Setup_getitem : List Str := ["self", "at"]
theorem sc_Setup_getitem : FnScope N_Setup_getitem ["self", "at"] (C8.fnScope s_Setup_getitem) := C8.fnScope_by (by decide +kernel)
theorem ok_Setup_getitem {fd : FuncData} (T : Txt K mg) (F : FunD K "__getitem__" "Setup.__getitem__" (C8.fnArgs s_Setup_getitem) (C8.fnBody s_Setup_getitem) (C8.fnScope s_Setup_getitem) [] [] (He.ma K (aC "Setup" K) "__getitem__") fd) (c_contains : C8.Met P w K mg base 1 (aC "Setup" K) "__contains__" (sp_Setup_contains K) []) :
    C8.Met P w K mg base 2 (aC "Setup" K) "__getitem__" (sp_Setup_getitem K) [] := by
  refine C8.met0 T.cl_Setup T.m_Setup_getitem (fun_c8 F) (F.bindsN fun _ _ _ _ _ _ us hl => match us, hl with | [_, _], _ => rfl) sc_Setup_getitem (fun vs H Q E h => ?_) (fun cdv A outer s H vs Q E hr h => ?_)
  · obtain ⟨_, _, _, _, rfl, _⟩ := h
    rfl
  · have nd := sc_Setup_getitem.nd
    have hu := hu_of hr
    obtain ⟨su, S, l, K0, rfl, hS0, e0, ok, hl, q⟩ := h
    refine ⟨_, (pss_cons (ps_if (pt_cmpR (C_nin c_contains hr (by decide)) (pv 1) (pv 0) (by rfl)) (pss_one ps_never) pss_nil)
      (pss_one (ps_ret (pe_dget hu (pe_fld (pv 0) rfl) (pv 1) (fun _ _ => rfl))))), ?_⟩
    have hS := SetupAt.up e0 hS0
    obtain ⟨dx, la, wa, bn, oa, xs, h1', h2, h3, h4', h5, h6⟩ := hS0
    have h1 := e0 _ _ h1'
    have h4 := e0 _ _ h4'
    refine ⟨_, rfl, _, rfl, su, dx, _, rfl, h1, ⟨su, S, _, rfl, hS, ok, _, rfl, false, by rw [decide_eq_true (List.mem_map_of_mem hl)]; rfl, iteF ?_⟩⟩
    obtain ⟨i, hi⟩ := List.mem_iff_getElem?.mp hl
    obtain ⟨v, hv, hL⟩ := pgetr h5 hi
    exact ⟨_, rfl, _, _, _, _, _, rfl, h1, T.cl_Setup, T.t_Setup_by_name, rfl, _, rfl, _, v, rfl, byN_at ok.ok.nd hi hv ▸ DGet.k (k := .inr l.name) h4, q v hL⟩
abbrev N_Setup_order : List Str := ["self"]
theorem sc_Setup_order : FnScope N_Setup_order ["self"] (C8.fnScope s_Setup_order) := C8.fnScope_by (by decide +kernel)
theorem ok_Setup_order {fd : FuncData} (T : Txt K mg) (F : FunD K "order" "Setup.order" (C8.fnArgs s_Setup_order) (C8.fnBody s_Setup_order) (C8.fnScope s_Setup_order) [] [] (prA "Setup" "order" K) fd) :
    FnP P w K mg base 1 (prA "Setup" "order" K) (sp_Setup_order K) := by
  refine fnP_mk (fun_c8 F) (F.bindsN fun _ _ _ _ _ _ us hl => match us, hl with | [_], _ => rfl) sc_Setup_order (fun vs H Q E h => ?_) (fun cdv A outer s H vs Q E hr h => ?_)
  · obtain ⟨_, _, _, rfl, _⟩ := h
    rfl
  · have nd := sc_Setup_order.nd
    have hu := hu_of hr
    obtain ⟨su, S, K0, rfl, ⟨dx, la, wa, bn, oa, xs, h1, h2, h3, h4, h5, h6⟩, sm, q⟩ := h
    refine ⟨_, (pss_one (ps_ret (pe_fld (pv 0) rfl))), ?_⟩
    exact ⟨_, rfl, _, _, _, _, _, rfl, sm _ _ h1, T.cl_Setup, T.t_Setup_order, rfl, q oa h6⟩
abbrev N_Setup_works : List Str := ["self"]
theorem sc_Setup_works : FnScope N_Setup_works ["self"] (C8.fnScope s_Setup_works) := C8.fnScope_by (by decide +kernel)
theorem ok_Setup_works {fd : FuncData} (T : Txt K mg) (F : FunD K "works" "Setup.works" (C8.fnArgs s_Setup_works) (C8.fnBody s_Setup_works) (C8.fnScope s_Setup_works) [] [] (prA "Setup" "works" K) fd) :
    FnP P w K mg base 1 (prA "Setup" "works" K) (sp_Setup_works K) := by
  refine fnP_mk (fun_c8 F) (F.bindsN fun _ _ _ _ _ _ us hl => match us, hl with | [_], _ => rfl) sc_Setup_works (fun vs H Q E h => ?_) (fun cdv A outer s H vs Q E hr h => ?_)
  · obtain ⟨_, _, _, rfl, _⟩ := h
    rfl
  · have nd := sc_Setup_works.nd
    have hu := hu_of hr
    obtain ⟨su, S, K0, rfl, ⟨dx, la, wa, bn, oa, xs, h1, h2, h3, h4, h5, h6⟩, sm, q⟩ := h
    refine ⟨_, (pss_one (ps_ret (pe_fld (pv 0) rfl))), ?_⟩
    exact ⟨_, rfl, _, _, _, _, _, rfl, sm _ _ h1, T.cl_Setup, T.t_Setup_works, rfl, q wa h3⟩
end
end Cb

namespace Cb
open PySem PySem.Spec PyProof.Rows L2

theorem fnR_of {P : Program} {w : World} {K : PySem.W.Frag} {mg : Str → Option Value} {base : Heap} {CX : CXT} {k : Nat} {f : Addr} {fd : FuncData} {ps : List Str} {sp : Sp} (F : FnOk P w K mg base CX k f fd ps sp) (b : L2.Binds K fd ps []) : FnR P w K mg base CX k f sp :=
  fun A outer s H us vs Q E hr he rv hs => F.run A outer s H ⟨us, []⟩ us vs Q E hr he (by
    have z := b s us (fun a o e => (he.bs a o (he.mod.kin a o e)).1) (by rw [List.append_nil, ← rv.length]; exact F.len _ _ _ _ hs)
    rw [List.append_nil] at z
    exact z) rv hs
/-- a base class's function, called by super() -/
structure BFn (P : Program) (w : World) (K : PySem.W.Frag) (mg : Str → Option Value) (base : Heap) (k : Nat) (f : Addr) (sp : Sp) : Prop where
  r : FnR P w K mg base C8.CX0 k f sp
  fi : PySem.W.fnIn K f = true
theorem fnR0 {P : Program} {w : World} {K : PySem.W.Frag} {mg : Str → Option Value} {base : Heap} {m qual : Str} {st : Stmt} {f : Addr} {fd : FuncData} {N ps : List Str} {k : Nat} {sp : Sp} (F : C8.Fun K m qual st f fd) (b : L2.Binds K fd ps []) (S : FnScope N ps (C8.fnScope st)) (len : ∀ vs H Q E, sp vs H Q E → vs.length = ps.length)
    (hbody : ∀ (cdv : Value) (A : Around) (outer : List Env) (s : Shared) (H : Hp) (vs : List V) (Q : VK) (E : XK), Room k (A.deeper (envOfC qual (C8.fnScope st) s.heap.objs.size f cdv)) → sp vs H Q E →
      ∃ t, PSs (cxOf C8.CX0 P w K mg base N qual (C8.fnScope st) f cdv A outer s H E).nox (C8.fnBody st) t ∧ t { nx := fun _ H' => Q .non H', rt := Q } (L2.start N vs) H) : BFn P w K mg base (k + 1) f sp := ⟨fnR_of (C8.fn0 F S len hbody) b, by
  obtain ⟨oc, od, dV, kV, doc, pm, an, cdv, ct, osl, e, l, c⟩ := F
  unfold PySem.W.fnIn
  rw [l, e]⟩
structure AdB where
  su : Addr
  bo : Addr
  db : Addr
  r : Addr
  d : Addr
  u : Addr
  fl : Addr
  mg : Addr
  pl : Addr
  ow : Addr
  ri : Addr
  fa : Addr
  nu : Addr
def boI (K : PySem.W.Frag) (A : AdB) (tk : Int) : HO := .ins (aC "HouseBoard" K) A.db [("_setup", .ref A.su), ("_rung", .ref A.r), ("_disabled", .ref A.d), ("_under_way", .ref A.u), ("_flags", .ref A.fl), ("_merges", .ref A.mg), ("_tick", .int tk), ("_places", .ref A.pl), ("_owners", .ref A.ow), ("_rings", .ref A.ri), ("_fates", .ref A.fa), ("_numbers", .ref A.nu)]
def RgAt (K : PySem.W.Frag) (H : Hp) (v : V) (r : Int × Str) : Prop := ∃ t, v = .ref t ∧ SqT K H t [.int r.1, .str r.2]
def FtAt (K : PySem.W.Frag) (H : Hp) (v : V) : FtD → Prop
  | .wait => v = .non
  | .merged n => ∃ t, v = .ref t ∧ SqT K H t [.str "merged", optN n]
  | .served i p => ∃ t, v = .ref t ∧ SqT K H t [.str "served", .int i, optV p]
theorem RgAt.up {K : PySem.W.Frag} {H H' : Hp} {v : V} {r : Int × Str} (e : Same H H') (h : RgAt K H v r) : RgAt K H' v r := h.elim fun a h => ⟨a, h.1, Same.tup e h.2⟩
theorem FtAt.up {K : PySem.W.Frag} {H H' : Hp} {v : V} {r : FtD} (e : Same H H') (h : FtAt K H v r) : FtAt K H' v r := by
  cases r with
  | wait => exact h
  | merged n => obtain ⟨t, a, b⟩ := h; exact ⟨t, a, Same.tup e b⟩
  | served i p => obtain ⟨t, a, b⟩ := h; exact ⟨t, a, Same.tup e b⟩
def layB (K : PySem.W.Frag) (A : AdB) (S : SetD) (b : BdD) (rv fv : List V) (M : List (Addr × HO)) : List (Addr × HO) :=
  (A.r, .dK (bd S.order b.rung)) :: (A.d, .dK (bd S.order b.dis)) :: (A.u, .dK (bd S.order b.und)) :: (A.fl, .lst (b.fl.map V.bl)) :: (A.mg, .dK (md S.order b.mg)) :: (A.bo, boI K A b.tk) ::
  (A.pl, .dK (od S.order b.pl)) :: (A.ow, .dK (od S.order b.ow)) :: (A.ri, .lst rv) :: (A.fa, .lst fv) :: (A.nu, .dK (onn S.order b.nu)) :: M
structure BdOk (S : SetD) (b : BdD) : Prop where
  lv : ∀ l ∈ S.ls, b.lev l.name = l.lvl
  fl : b.fl.length = 8
  nk : NuOk b
structure OwnB (K : PySem.W.Frag) (A : AdB) (S : SetD) (K0 H : Hp) (b : BdD) (M : List (Addr × HO)) : Prop where
  su : SetupAt K K0 A.su S
  ok : SetOk S
  bk : BdOk S b
  ex : ∃ rv fv, Paired (RgAt K K0) rv b.rg ∧ Paired (FtAt K K0) fv b.fa ∧ Sep K0 H (layB K A S b rv fv M)
/-- the board as it is read -/
structure BoardAt (K : PySem.W.Frag) (H : Hp) (A : AdB) (S : SetD) : Prop where
  at_ : ∃ t, H A.bo = some (boI K A t)
  su : SetupAt K H A.su S
  ok : SetOk S
section
variable {K : PySem.W.Frag} {A : AdB} {S : SetD} {K0 K1 H H' : Hp} {b b' : BdD} {M M' : List (Addr × HO)}
theorem OwnB.ext (h : OwnB K A S K0 H b M) : Same K0 H := by
  obtain ⟨rv, fv, h1, h2, sp⟩ := h.ex
  exact sp.ext
theorem OwnB.obj (h : OwnB K A S K0 H b M) : H A.bo = some (boI K A b.tk) := by
  obtain ⟨rv, fv, h1, h2, sp⟩ := h.ex
  exact sp.at_ (by simp [layB])
theorem OwnB.at_ (h : OwnB K A S K0 H b M) : BoardAt K H A S := ⟨⟨_, h.obj⟩, SetupAt.up h.ext h.su, h.ok⟩
theorem OwnB.grow (h : OwnB K A S K0 H b M) (g : Same H H') : OwnB K A S K0 H' b M := by
  obtain ⟨rv, fv, h1, h2, sp⟩ := h.ex
  exact ⟨h.su, h.ok, h.bk, rv, fv, h1, h2, sp.grow g⟩
/-- what lies beside the board, to be worked on -/
theorem OwnB.lens (h : OwnB K A S K0 H b M) : ∃ L, Sep K0 H (M ++ L) ∧ (∀ K1 H' M', Same K0 K1 → Sep K1 H' (M' ++ L) → OwnB K A S K1 H' b M') := by
  obtain ⟨rv, fv, h1, h2, sp⟩ := h.ex
  refine ⟨layB K A S b rv fv [], ?_, fun K1 H' M' g s => ⟨SetupAt.up g h.su, h.ok, h.bk, rv, fv, h1.mono fun _ _ z => RgAt.up g z, h2.mono fun _ _ z => FtAt.up g z, ?_⟩⟩
  · exact sp.perm (List.perm_append_comm (l₁ := M) (l₂ := layB K A S b rv fv []))
  · exact s.perm (List.perm_append_comm (l₁ := layB K A S b rv fv []) (l₂ := M'))
/-- a store at the board's own dicts and lists of plain things -/
theorem OwnB.mk2 (h : OwnB K A S K0 H b M) (bk : BdOk S b') (e1 : b'.rg = b.rg) (e2 : b'.fa = b.fa) {rv fv : List V} (h1 : Paired (RgAt K K0) rv b.rg) (h2 : Paired (FtAt K K0) fv b.fa) (sp : Sep K0 H' (layB K A S b' rv fv M)) : OwnB K A S K0 H' b' M := ⟨h.su, h.ok, bk, rv, fv, by rw [e1]; exact h1, by rw [e2]; exact h2, sp⟩
end
section
variable {K0 H : Hp} {L : List (Addr × HO)} {a1 a2 a3 a4 a5 a6 a7 a8 a9 a10 e : Addr × HO} {a : Addr} {x y : HO}
theorem Sep.c6 (s : Sep K0 H (a1 :: a2 :: a3 :: a4 :: a5 :: a6 :: (a, x) :: L)) : H a = some x := s.cs.2.2.2.2.2.2.1
theorem Sep.c7 (s : Sep K0 H (a1 :: a2 :: a3 :: a4 :: a5 :: a6 :: a7 :: (a, x) :: L)) : H a = some x := s.cs.2.2.2.2.2.2.2.1
theorem Sep.c8 (s : Sep K0 H (a1 :: a2 :: a3 :: a4 :: a5 :: a6 :: a7 :: a8 :: (a, x) :: L)) : H a = some x := s.cs.2.2.2.2.2.2.2.2.1
theorem Sep.c9 (s : Sep K0 H (a1 :: a2 :: a3 :: a4 :: a5 :: a6 :: a7 :: a8 :: a9 :: (a, x) :: L)) : H a = some x := s.cs.2.2.2.2.2.2.2.2.2.1
theorem Sep.c10 (s : Sep K0 H (a1 :: a2 :: a3 :: a4 :: a5 :: a6 :: a7 :: a8 :: a9 :: a10 :: (a, x) :: L)) : H a = some x := s.cs.2.2.2.2.2.2.2.2.2.2.1
theorem Sep.put6 (s : Sep K0 H (a1 :: a2 :: a3 :: a4 :: a5 :: a6 :: (a, x) :: L)) : Sep K0 (upd H a y) (a1 :: a2 :: a3 :: a4 :: a5 :: a6 :: (a, y) :: L) := Sep.put (L1 := [a1, a2, a3, a4, a5, a6]) s
theorem Sep.put7 (s : Sep K0 H (a1 :: a2 :: a3 :: a4 :: a5 :: a6 :: a7 :: (a, x) :: L)) : Sep K0 (upd H a y) (a1 :: a2 :: a3 :: a4 :: a5 :: a6 :: a7 :: (a, y) :: L) := Sep.put (L1 := [a1, a2, a3, a4, a5, a6, a7]) s
theorem Sep.put8 (s : Sep K0 H (a1 :: a2 :: a3 :: a4 :: a5 :: a6 :: a7 :: a8 :: (a, x) :: L)) : Sep K0 (upd H a y) (a1 :: a2 :: a3 :: a4 :: a5 :: a6 :: a7 :: a8 :: (a, y) :: L) := Sep.put (L1 := [a1, a2, a3, a4, a5, a6, a7, a8]) s
theorem Sep.put9 (s : Sep K0 H (a1 :: a2 :: a3 :: a4 :: a5 :: a6 :: a7 :: a8 :: a9 :: (a, x) :: L)) : Sep K0 (upd H a y) (a1 :: a2 :: a3 :: a4 :: a5 :: a6 :: a7 :: a8 :: a9 :: (a, y) :: L) := Sep.put (L1 := [a1, a2, a3, a4, a5, a6, a7, a8, a9]) s
theorem Sep.put10 (s : Sep K0 H (a1 :: a2 :: a3 :: a4 :: a5 :: a6 :: a7 :: a8 :: a9 :: a10 :: (a, x) :: L)) : Sep K0 (upd H a y) (a1 :: a2 :: a3 :: a4 :: a5 :: a6 :: a7 :: a8 :: a9 :: a10 :: (a, y) :: L) := Sep.put (L1 := [a1, a2, a3, a4, a5, a6, a7, a8, a9, a10]) s
end
theorem bd_len {S : SetD} (ok : SetOk S) (f : Str → Bool) : (bd S.order f).length < sizeLine := sml (m := 12) (by simpa [bd] using ok.len) (by decide)
theorem md_len {S : SetD} (ok : SetOk S) (f : Str → Int) : (md S.order f).length < sizeLine := sml (m := 12) (by simpa [md] using ok.len) (by decide)
theorem od_len {S : SetD} (ok : SetOk S) (f : Str → Option Int) : (od S.order f).length < sizeLine := sml (m := 12) (by simpa [od] using ok.len) (by decide)
theorem on_len {S : SetD} (ok : SetOk S) (f : Str → Option Nat) : (onn S.order f).length < sizeLine := sml (m := 12) (by simpa [onn] using ok.len) (by decide)
def ringR (b : Bool) : Str := if b = true then "merged" else "waits"
/-- what the base class makes of a ring, a begin, an end, a level made quiet -/
def ringB0 (b : BdD) (n : Str) : BdD := { b with rung := fset b.rung n true, mg := if b.rung n then nset b.mg n (b.mg n + 1) else b.mg }
def quietB0 (b : BdD) (n : Str) : BdD := { b with rung := fset b.rung n false }
def beginB0 (b : BdD) (l : LineD) : BdD := { b with rung := (if l.lvl then b.rung else fset b.rung l.name false), und := fset b.und l.name true }
def endB0 (b : BdD) (l : LineD) : BdD := { b with und := fset b.und l.name false }
def sp_put_changedL : Sp := fun vs H Q _ => ∃ (a : Addr) (i : Nat) (b : Bool) (l : List Bool), vs = [.ref a, .int (i : Nat), .bl b] ∧ H a = some (.lst (l.map V.bl)) ∧ i < l.length ∧ Q (.bl (!decide (V.bl (l.getD i false) = V.bl b))) (upd H a (.lst ((l.set i b).map V.bl)))
def sp_Board_check_line (K : PySem.W.Frag) : Sp := fun vs H Q _ => ∃ (A : AdB) (S : SetD) (l : LineD), vs = [.ref A.bo, .str l.name] ∧ BoardAt K H A S ∧ l ∈ S.ls ∧ Q .non H
def sp_Board_is_edge (K : PySem.W.Frag) : Sp := fun vs H Q _ => ∃ (A : AdB) (S : SetD) (l : LineD), vs = [.ref A.bo, .str l.name] ∧ BoardAt K H A S ∧ l ∈ S.ls ∧ Q (.bl (!l.lvl)) H
def sp_Board_ring (K : PySem.W.Frag) : Sp := fun vs H Q _ => ∃ (A : AdB) (S : SetD) (l : LineD) (K0 : Hp) (b : BdD) (M : List (Addr × HO)), vs = [.ref A.bo, .str l.name] ∧ OwnB K A S K0 H b M ∧ l ∈ S.ls ∧
  ∀ H', OwnB K A S K0 H' (ringB0 b l.name) M → Q (.str (ringR (b.rung l.name))) H'
def sp_Board_quiet (K : PySem.W.Frag) : Sp := fun vs H Q _ => ∃ (A : AdB) (S : SetD) (l : LineD) (K0 : Hp) (b : BdD) (M : List (Addr × HO)), vs = [.ref A.bo, .str l.name] ∧ OwnB K A S K0 H b M ∧ l ∈ S.ls ∧ l.lvl = true ∧
  ∀ H', OwnB K A S K0 H' (quietB0 b l.name) M → Q (.bl (b.rung l.name)) H'
def sp_Board_mask (K : PySem.W.Frag) : Sp := fun vs H Q _ => ∃ (A : AdB) (S : SetD) (l : LineD) (K0 : Hp) (b : BdD) (M : List (Addr × HO)), vs = [.ref A.bo, .str l.name] ∧ OwnB K A S K0 H b M ∧ l ∈ S.ls ∧
  ∀ H', OwnB K A S K0 H' (maskB b l.name true) M → Q (.bl (!b.dis l.name)) H'
def sp_Board_unmask (K : PySem.W.Frag) : Sp := fun vs H Q _ => ∃ (A : AdB) (S : SetD) (l : LineD) (K0 : Hp) (b : BdD) (M : List (Addr × HO)), vs = [.ref A.bo, .str l.name] ∧ OwnB K A S K0 H b M ∧ l ∈ S.ls ∧
  ∀ H', OwnB K A S K0 H' (maskB b l.name false) M → Q (.bl (b.dis l.name)) H'
def sp_Board_set_flag (K : PySem.W.Frag) : Sp := fun vs H Q _ => ∃ (A : AdB) (S : SetD) (f : Nat) (K0 : Hp) (b : BdD) (M : List (Addr × HO)), vs = [.ref A.bo, .int (f : Nat)] ∧ OwnB K A S K0 H b M ∧ f ≤ 7 ∧
  ∀ H', OwnB K A S K0 H' (flagB b f true) M → Q (.bl (!b.fl.getD f false)) H'
def sp_Board_clear_flag (K : PySem.W.Frag) : Sp := fun vs H Q _ => ∃ (A : AdB) (S : SetD) (f : Nat) (K0 : Hp) (b : BdD) (M : List (Addr × HO)), vs = [.ref A.bo, .int (f : Nat)] ∧ OwnB K A S K0 H b M ∧ f ≤ 7 ∧
  ∀ H', OwnB K A S K0 H' (flagB b f false) M → Q (.bl (b.fl.getD f false)) H'
def sp_Board_begin (K : PySem.W.Frag) : Sp := fun vs H Q _ => ∃ (A : AdB) (S : SetD) (l : LineD) (K0 : Hp) (b : BdD) (M : List (Addr × HO)), vs = [.ref A.bo, .str l.name] ∧ OwnB K A S K0 H b M ∧ l ∈ S.ls ∧
  ∀ H', OwnB K A S K0 H' (beginB0 b l) M → Q (.non) H'
def sp_Board_end (K : PySem.W.Frag) : Sp := fun vs H Q _ => ∃ (A : AdB) (S : SetD) (l : LineD) (K0 : Hp) (b : BdD) (M : List (Addr × HO)), vs = [.ref A.bo, .str l.name] ∧ OwnB K A S K0 H b M ∧ l ∈ S.ls ∧
  ∀ H', OwnB K A S K0 H' (endB0 b l) M → Q (.non) H'

def SD.onB : SD → Bool
  | .ring _ | .quiet _ | .mask _ | .unmask _ | .setf _ | .clearf _ | .await _ => true
  | _ => false
def sp_Board_is_up (K : PySem.W.Frag) : Sp := fun vs H Q _ => ∃ (A : AdB) (S : SetD) (f : Nat) (K0 : Hp) (b : BdD) (M : List (Addr × HO)), vs = [.ref A.bo, .int (f : Nat)] ∧ OwnB K A S K0 H b M ∧ f ≤ 7 ∧ Q (.bl (b.fl.getD f false)) H
def sp_Board_is_enabled (K : PySem.W.Frag) : Sp := fun vs H Q _ => ∃ (A : AdB) (S : SetD) (l : LineD) (K0 : Hp) (b : BdD) (M : List (Addr × HO)), vs = [.ref A.bo, .str l.name] ∧ OwnB K A S K0 H b M ∧ l ∈ S.ls ∧ Q (.bl (!b.dis l.name)) H
def sp_Board_is_high (K : PySem.W.Frag) : Sp := fun vs H Q _ => ∃ (A : AdB) (S : SetD) (l : LineD) (K0 : Hp) (b : BdD) (M : List (Addr × HO)), vs = [.ref A.bo, .str l.name] ∧ OwnB K A S K0 H b M ∧ l ∈ S.ls ∧ Q (.bl (b.rung l.name && l.lvl)) H
def sp_Board_waits (K : PySem.W.Frag) : Sp := fun vs H Q _ => ∃ (A : AdB) (S : SetD) (l : LineD) (K0 : Hp) (b : BdD) (M : List (Addr × HO)), vs = [.ref A.bo, .str l.name] ∧ OwnB K A S K0 H b M ∧ l ∈ S.ls ∧ Q (.bl (waitsB b l)) H
theorem nb (b : Bool) : (!decide (V.bl b = V.bl true)) = !b := by cases b <;> rfl
theorem nb' (b : Bool) : (!decide (V.bl b = V.bl false)) = b := by cases b <;> rfl
theorem atF {l : List Bool} {i : Nat} (h : i < l.length) : atI (l.map V.bl) (i : Nat) = some (.bl (l.getD i false)) := by
  refine atIn ?_
  rw [List.getElem?_map, List.getElem?_eq_getElem h]
  simp [List.getD_eq_getElem?_getD, List.getElem?_eq_getElem h]
theorem ixNn {n k : Nat} (h : k < n) : ixN n (k : Nat) = some k := by
  unfold ixN
  rw [if_pos (by omega), if_pos (by omega), Int.toNat_natCast]
theorem BdOk.ring0 {S : SetD} {b : BdD} (h : BdOk S b) (n : Str) : BdOk S (ringB0 b n) := ⟨h.lv, h.fl, h.nk.len, h.nk.lt⟩
theorem BdOk.quiet0 {S : SetD} {b : BdD} (h : BdOk S b) (n : Str) : BdOk S (quietB0 b n) := ⟨h.lv, h.fl, h.nk.len, h.nk.lt⟩
theorem BdOk.begin0 {S : SetD} {b : BdD} (h : BdOk S b) (l : LineD) : BdOk S (beginB0 b l) := ⟨h.lv, h.fl, h.nk.len, h.nk.lt⟩
theorem BdOk.end0 {S : SetD} {b : BdD} (h : BdOk S b) (l : LineD) : BdOk S (endB0 b l) := ⟨h.lv, h.fl, h.nk.len, h.nk.lt⟩
theorem BdOk.mask {S : SetD} {b : BdD} (h : BdOk S b) (n : Str) (v : Bool) : BdOk S (maskB b n v) := ⟨h.lv, h.fl, h.nk.len, h.nk.lt⟩
theorem BdOk.flag {S : SetD} {b : BdD} (h : BdOk S b) (f : Nat) (v : Bool) : BdOk S (flagB b f v) := ⟨h.lv, by show (b.fl.set f v).length = 8; rw [List.length_set]; exact h.fl, h.nk.len, h.nk.lt⟩

section
variable {P : Program} {w : World} {K : PySem.W.Frag} {mg : Str → Option Value} {base : Heap}

theorem okP_put_changed {fd : FuncData} (T : Txt K mg) (F : FunD K "put_changed" "put_changed" (C8.fnArgs s_put_changed) (C8.fnBody s_put_changed) (C8.fnScope s_put_changed) [] [] (He.ga K "put_changed") fd) :
    C8.Cal P w K mg base 1 "put_changed" sp_put_changedL [] := by
  refine C8.cal0 (ds := []) ⟨fun_c8 F, T.f_put_changed, F.kp⟩ (F.bindsN fun _ _ _ _ _ _ us hl => match us, hl with | [_, _, _], _ => rfl) .nil sc_put_changed (fun vs H Q E h => ?_) (fun cdv A outer s H vs Q E hr h => ?_)
  · obtain ⟨_, _, _, _, rfl, _⟩ := h
    rfl
  · have nd := sc_put_changed.nd
    have hu := hu_of hr
    obtain ⟨a, i, b, l, rfl, ha, hi, q⟩ := h
    refine ⟨_, (pss_cons (ps_set (i := 3) nd rfl (Or.inl rfl) (pe_ix ix_list (pv 0) (pv 1) (fun _ _ => rfl)))
      (pss_cons (ps_asg (pv 2) (pg_sub (pv 0) (pv 1) set_list))
      (pss_one (ps_ret (pe_cmpR op_ne (pv 3) (pv 2) (nomark _)))))), ?_⟩
    refine ⟨_, rfl, _, rfl, _, _, _, _, rfl, rfl, l_of ha, atF hi, ?_⟩
    refine ⟨_, rfl, _, rfl, _, rfl, _, _, _, i, rfl, rfl, ha, ixNn (by simpa using hi), ?_⟩
    rw [← List.map_set]
    exact ⟨_, rfl, _, rfl, rfl, q⟩
abbrev N_Board_check_line : List Str := ["self", "line"]
theorem sc_Board_check_line : FnScope N_Board_check_line ["self", "line"] (C8.fnScope s_Board_check_line) := C8.fnScope_by (by decide +kernel)
theorem ok_Board_check_line {fd : FuncData} (T : Txt K mg) (F : FunD K "_check_line" "Board._check_line" (C8.fnArgs s_Board_check_line) (C8.fnBody s_Board_check_line) (C8.fnScope s_Board_check_line) [] [] (He.ma K (aC "Board" K) "_check_line") fd) (c_contains : C8.Met P w K mg base 1 (aC "Setup" K) "__contains__" (sp_Setup_contains K) []) :
    C8.Met P w K mg base 2 (aC "HouseBoard" K) "_check_line" (sp_Board_check_line K) [] := by
  refine C8.met0 T.cl_HouseBoard T.h_check_line (fun_c8 F) (F.bindsN fun _ _ _ _ _ _ us hl => match us, hl with | [_, _], _ => rfl) sc_Board_check_line (fun vs H Q E h => ?_) (fun cdv A outer s H vs Q E hr h => ?_)
  · obtain ⟨_, _, _, rfl, _⟩ := h
    rfl
  · have nd := sc_Board_check_line.nd
    have hu := hu_of hr
    obtain ⟨A, S, l, rfl, B, hl, q⟩ := h
    refine ⟨_, (pss_one (ps_if (pt_cmpR (C_nin c_contains hr (by decide)) (pv 1) (pe_fld (pv 0) rfl) (by rfl)) (pss_one ps_never) pss_nil)), ?_⟩
    obtain ⟨tk, h1⟩ := B.at_
    obtain ⟨dx2, _, _, _, _, _, h3, _⟩ := B.su.ex
    refine ⟨_, rfl, _, rfl, _, _, _, _, _, rfl, h1, T.cl_HouseBoard, T.t_HouseBoard_setup, rfl, A.su, dx2, _, rfl, h3, A.su, S, _, rfl, B.su, B.ok, _, rfl, false, by rw [decide_eq_true (List.mem_map_of_mem hl)]; rfl, iteF q⟩
abbrev N_Board_is_edge : List Str := ["self", "line"]
theorem sc_Board_is_edge : FnScope N_Board_is_edge ["self", "line"] (C8.fnScope s_Board_is_edge) := C8.fnScope_by (by decide +kernel)
theorem ok_Board_is_edge {fd : FuncData} (T : Txt K mg) (F : FunD K "_is_edge" "Board._is_edge" (C8.fnArgs s_Board_is_edge) (C8.fnBody s_Board_is_edge) (C8.fnScope s_Board_is_edge) [] [] (He.ma K (aC "Board" K) "_is_edge") fd) (c_getitem : C8.Met P w K mg base 2 (aC "Setup" K) "__getitem__" (sp_Setup_getitem K) []) :
    C8.Met P w K mg base 4 (aC "HouseBoard" K) "_is_edge" (sp_Board_is_edge K) [] := by
  refine C8.met0 T.cl_HouseBoard T.h_is_edge (fun_c8 F) (F.bindsN fun _ _ _ _ _ _ us hl => match us, hl with | [_, _], _ => rfl) sc_Board_is_edge (fun vs H Q E h => ?_) (fun cdv A outer s H vs Q E hr h => ?_)
  · obtain ⟨_, _, _, rfl, _⟩ := h
    rfl
  · have nd := sc_Board_is_edge.nd
    have hu := hu_of hr
    obtain ⟨A, S, l, rfl, B, hl, q⟩ := h
    refine ⟨_, (pss_one (ps_ret (pe_cmpR op_eq (pe_ix ix_tup (C_ix T.m_Setup_getitem T.i_getitem c_getitem hr (by decide) (pe_fld (pv 0) rfl) (pv 1)) pe_int (fun _ _ => rfl)) pe_str (nomark _)))), ?_⟩
    obtain ⟨tk, h1⟩ := B.at_
    obtain ⟨dx2, _, _, _, _, _, h3, _⟩ := B.su.ex
    refine ⟨_, rfl, _, _, _, _, _, rfl, h1, T.cl_HouseBoard, T.t_HouseBoard_setup, rfl, _, rfl, A.su, dx2, _, rfl, h3, A.su, S, l, H, rfl, B.su, Same.refl H, B.ok, hl, fun v hv => ?_⟩
    obtain ⟨a, g, gs, rfl, ha, _⟩ := hv
    exact ⟨_, _, _, _, rfl, rfl, ha, rfl, rfl, (congrArg (fun b => Q (.bl b) H) (by cases l.lvl <;> rfl)).mp q⟩
abbrev N_Board_ring : List Str := ["self", "line"]
theorem sc_Board_ring : FnScope N_Board_ring ["self", "line"] (C8.fnScope s_Board_ring) := C8.fnScope_by (by decide +kernel)
theorem ok_Board_ring {fd : FuncData} (T : Txt K mg) (F : FunD K "ring" "Board.ring" (C8.fnArgs s_Board_ring) (C8.fnBody s_Board_ring) (C8.fnScope s_Board_ring) [] [] (He.ma K (aC "Board" K) "ring") fd) (c_check_line : C8.Met P w K mg base 2 (aC "HouseBoard" K) "_check_line" (sp_Board_check_line K) []) (c_put_changed : C8.Cal P w K mg base 1 "put_changed" sp_put_changed []) :
    BFn P w K mg base 3 (He.ma K (aC "Board" K) "ring") (sp_Board_ring K) := by
  refine fnR0 (fun_c8 F) (F.bindsN fun _ _ _ _ _ _ us hl => match us, hl with | [_, _], _ => rfl) sc_Board_ring (fun vs H Q E h => ?_) (fun cdv A outer s H vs Q E hr h => ?_)
  · obtain ⟨_, _, _, _, _, _, rfl, _⟩ := h
    rfl
  · have nd := sc_Board_ring.nd
    have hu := hu_of hr
    obtain ⟨A, S, l, K0, b, M, rfl, ow, hl, q⟩ := h
    refine ⟨_, (pss_cons (ps_expr (C8.pe_mt c_check_line hr (by decide) (pv 0) (pa_cons (pv 1) pa_nil)))
      (pss_cons (ps_if (pt_val (C8.pe_c c_put_changed hr (by decide) rfl (pa_cons (pe_fld (pv 0) rfl) (pa_cons (pv 1) (pa_cons pe_bl pa_nil))))) (pss_one (ps_ret pe_str)) pss_nil)
      (pss_cons (ps_daug hu (pe_fld (pv 0) rfl) (pv 1) pe_int in_add (fun _ _ _ => rfl))
      (pss_one (ps_ret pe_str))))), ?_⟩
    have B := ow.at_
    have h1 := ow.obj
    obtain ⟨rv, fv, p1, p2, sp⟩ := ow.ex
    have hm := B.ok.mem hl
    refine ⟨_, rfl, A.bo, A.db, _, rfl, h1, rfl, _, rfl, A, S, l, rfl, B, hl, ?_⟩
    refine ⟨_, rfl, _, _, _, _, _, rfl, h1, T.cl_HouseBoard, T.t_HouseBoard_rung, rfl, _, rfl, A.r, l.name, true, S.order, b.rung, rfl, sp.c0, hm, B.ok.len, ?_⟩
    have sp1 := sp.put0 (o' := .dK (bd S.order (fset b.rung l.name true)))
    have h9 := sp1.c5
    cases e : b.rung l.name with
    | true =>
      refine ⟨_, rfl, iteF ?_⟩
      have dp := DPut.k (k := .inr l.name) (v := .int (b.mg l.name + 1)) sp1.c4 (md_len B.ok _)
      rw [putK_md hm] at dp
      refine ⟨_, rfl, _, _, _, _, _, rfl, h9, T.cl_HouseBoard, T.t_HouseBoard_merges, rfl, _, rfl, _, .int (b.mg l.name), rfl, md_at hm ▸ DGet.k (k := .inr l.name) sp1.c4, ?_⟩
      refine ⟨_, _, rfl, rfl, _, dp, ?_⟩
      have z := q _ (ow.mk2 (ow.bk.ring0 l.name) rfl rfl p1 p2 (by unfold ringB0; rw [e, if_pos rfl]; exact sp1.put4))
      rw [e] at z
      exact z
    | false =>
      have z := q _ (ow.mk2 (ow.bk.ring0 l.name) rfl rfl p1 p2 (by unfold ringB0; rw [e, if_neg (by simp)]; exact sp1))
      rw [e] at z
      exact ⟨_, rfl, iteT z⟩
abbrev N_Board_quiet : List Str := ["self", "line"]
theorem sc_Board_quiet : FnScope N_Board_quiet ["self", "line"] (C8.fnScope s_Board_quiet) := C8.fnScope_by (by decide +kernel)
theorem ok_Board_quiet {fd : FuncData} (T : Txt K mg) (F : FunD K "quiet" "Board.quiet" (C8.fnArgs s_Board_quiet) (C8.fnBody s_Board_quiet) (C8.fnScope s_Board_quiet) [] [] (He.ma K (aC "Board" K) "quiet") fd) (c_check_line : C8.Met P w K mg base 2 (aC "HouseBoard" K) "_check_line" (sp_Board_check_line K) []) (c_is_edge : C8.Met P w K mg base 4 (aC "HouseBoard" K) "_is_edge" (sp_Board_is_edge K) []) (c_put_changed : C8.Cal P w K mg base 1 "put_changed" sp_put_changed []) :
    BFn P w K mg base 5 (He.ma K (aC "Board" K) "quiet") (sp_Board_quiet K) := by
  refine fnR0 (fun_c8 F) (F.bindsN fun _ _ _ _ _ _ us hl => match us, hl with | [_, _], _ => rfl) sc_Board_quiet (fun vs H Q E h => ?_) (fun cdv A outer s H vs Q E hr h => ?_)
  · obtain ⟨_, _, _, _, _, _, rfl, _⟩ := h
    rfl
  · have nd := sc_Board_quiet.nd
    have hu := hu_of hr
    obtain ⟨A, S, l, K0, b, M, rfl, ow, hl, hv, q⟩ := h
    refine ⟨_, (pss_cons (ps_expr (C8.pe_mt c_check_line hr (by decide) (pv 0) (pa_cons (pv 1) pa_nil)))
      (pss_cons (ps_if (pt_val (C8.pe_mt c_is_edge hr (by decide) (pv 0) (pa_cons (pv 1) pa_nil))) (pss_one ps_never) pss_nil)
      (pss_one (ps_ret (C8.pe_c c_put_changed hr (by decide) rfl (pa_cons (pe_fld (pv 0) rfl) (pa_cons (pv 1) (pa_cons pe_bl pa_nil)))))))), ?_⟩
    have B := ow.at_
    have h1 := ow.obj
    obtain ⟨rv, fv, p1, p2, sp⟩ := ow.ex
    have hm := B.ok.mem hl
    refine ⟨_, rfl, A.bo, A.db, _, rfl, h1, rfl, _, rfl, A, S, l, rfl, B, hl, ?_⟩
    refine ⟨_, rfl, A.bo, A.db, _, rfl, h1, rfl, _, rfl, A, S, l, rfl, B, hl, false, congrArg V.bl (by rw [hv]; rfl), iteF ?_⟩
    refine ⟨_, rfl, _, _, _, _, _, rfl, h1, T.cl_HouseBoard, T.t_HouseBoard_rung, rfl, _, rfl, A.r, l.name, false, S.order, b.rung, rfl, sp.c0, hm, B.ok.len, ?_⟩
    rw [nb']
    exact q _ (ow.mk2 (ow.bk.quiet0 l.name) rfl rfl p1 p2 sp.put0)
abbrev N_Board_mask : List Str := ["self", "line"]
theorem sc_Board_mask : FnScope N_Board_mask ["self", "line"] (C8.fnScope s_Board_mask) := C8.fnScope_by (by decide +kernel)
theorem ok_Board_mask {fd : FuncData} (T : Txt K mg) (F : FunD K "mask" "Board.mask" (C8.fnArgs s_Board_mask) (C8.fnBody s_Board_mask) (C8.fnScope s_Board_mask) [] [] (He.ma K (aC "Board" K) "mask") fd) (c_check_line : C8.Met P w K mg base 2 (aC "HouseBoard" K) "_check_line" (sp_Board_check_line K) []) (c_put_changed : C8.Cal P w K mg base 1 "put_changed" sp_put_changed []) :
    C8.Met P w K mg base 3 (aC "HouseBoard" K) "mask" (sp_Board_mask K) [] := by
  refine C8.met0 T.cl_HouseBoard T.h_mask (fun_c8 F) (F.bindsN fun _ _ _ _ _ _ us hl => match us, hl with | [_, _], _ => rfl) sc_Board_mask (fun vs H Q E h => ?_) (fun cdv A outer s H vs Q E hr h => ?_)
  · obtain ⟨_, _, _, _, _, _, rfl, _⟩ := h
    rfl
  · have nd := sc_Board_mask.nd
    have hu := hu_of hr
    obtain ⟨A, S, l, K0, b, M, rfl, ow, hl, q⟩ := h
    refine ⟨_, (pss_cons (ps_expr (C8.pe_mt c_check_line hr (by decide) (pv 0) (pa_cons (pv 1) pa_nil)))
      (pss_one (ps_ret (C8.pe_c c_put_changed hr (by decide) rfl (pa_cons (pe_fld (pv 0) rfl) (pa_cons (pv 1) (pa_cons pe_bl pa_nil))))))), ?_⟩
    have B := ow.at_
    have h1 := ow.obj
    obtain ⟨rv, fv, p1, p2, sp⟩ := ow.ex
    have hm := B.ok.mem hl
    refine ⟨_, rfl, A.bo, A.db, _, rfl, h1, rfl, _, rfl, A, S, l, rfl, B, hl, ?_⟩
    refine ⟨_, rfl, _, _, _, _, _, rfl, h1, T.cl_HouseBoard, T.t_HouseBoard_disabled, rfl, _, rfl, A.d, l.name, true, S.order, b.dis, rfl, sp.c1, hm, B.ok.len, ?_⟩
    rw [nb]
    exact q _ (ow.mk2 (ow.bk.mask l.name true) rfl rfl p1 p2 sp.put1)
abbrev N_Board_unmask : List Str := ["self", "line"]
theorem sc_Board_unmask : FnScope N_Board_unmask ["self", "line"] (C8.fnScope s_Board_unmask) := C8.fnScope_by (by decide +kernel)
theorem ok_Board_unmask {fd : FuncData} (T : Txt K mg) (F : FunD K "unmask" "Board.unmask" (C8.fnArgs s_Board_unmask) (C8.fnBody s_Board_unmask) (C8.fnScope s_Board_unmask) [] [] (He.ma K (aC "Board" K) "unmask") fd) (c_check_line : C8.Met P w K mg base 2 (aC "HouseBoard" K) "_check_line" (sp_Board_check_line K) []) (c_put_changed : C8.Cal P w K mg base 1 "put_changed" sp_put_changed []) :
    C8.Met P w K mg base 3 (aC "HouseBoard" K) "unmask" (sp_Board_unmask K) [] := by
  refine C8.met0 T.cl_HouseBoard T.h_unmask (fun_c8 F) (F.bindsN fun _ _ _ _ _ _ us hl => match us, hl with | [_, _], _ => rfl) sc_Board_unmask (fun vs H Q E h => ?_) (fun cdv A outer s H vs Q E hr h => ?_)
  · obtain ⟨_, _, _, _, _, _, rfl, _⟩ := h
    rfl
  · have nd := sc_Board_unmask.nd
    have hu := hu_of hr
    obtain ⟨A, S, l, K0, b, M, rfl, ow, hl, q⟩ := h
    refine ⟨_, (pss_cons (ps_expr (C8.pe_mt c_check_line hr (by decide) (pv 0) (pa_cons (pv 1) pa_nil)))
      (pss_one (ps_ret (C8.pe_c c_put_changed hr (by decide) rfl (pa_cons (pe_fld (pv 0) rfl) (pa_cons (pv 1) (pa_cons pe_bl pa_nil))))))), ?_⟩
    have B := ow.at_
    have h1 := ow.obj
    obtain ⟨rv, fv, p1, p2, sp⟩ := ow.ex
    have hm := B.ok.mem hl
    refine ⟨_, rfl, A.bo, A.db, _, rfl, h1, rfl, _, rfl, A, S, l, rfl, B, hl, ?_⟩
    refine ⟨_, rfl, _, _, _, _, _, rfl, h1, T.cl_HouseBoard, T.t_HouseBoard_disabled, rfl, _, rfl, A.d, l.name, false, S.order, b.dis, rfl, sp.c1, hm, B.ok.len, ?_⟩
    rw [nb']
    exact q _ (ow.mk2 (ow.bk.mask l.name false) rfl rfl p1 p2 sp.put1)
abbrev N_Board_set_flag : List Str := ["self", "flag"]
theorem sc_Board_set_flag : FnScope N_Board_set_flag ["self", "flag"] (C8.fnScope s_Board_set_flag) := C8.fnScope_by (by decide +kernel)
theorem ok_Board_set_flag {fd : FuncData} (T : Txt K mg) (F : FunD K "set_flag" "Board.set_flag" (C8.fnArgs s_Board_set_flag) (C8.fnBody s_Board_set_flag) (C8.fnScope s_Board_set_flag) [] [] (He.ma K (aC "Board" K) "set_flag") fd) (c_check_flag : C8.Cal P w K mg base 2 "check_flag" sp_check_flag []) (c_put_changedL : C8.Cal P w K mg base 1 "put_changed" sp_put_changedL []) :
    C8.Met P w K mg base 3 (aC "HouseBoard" K) "set_flag" (sp_Board_set_flag K) [] := by
  refine C8.met0 T.cl_HouseBoard T.h_set_flag (fun_c8 F) (F.bindsN fun _ _ _ _ _ _ us hl => match us, hl with | [_, _], _ => rfl) sc_Board_set_flag (fun vs H Q E h => ?_) (fun cdv A outer s H vs Q E hr h => ?_)
  · obtain ⟨_, _, _, _, _, _, rfl, _⟩ := h
    rfl
  · have nd := sc_Board_set_flag.nd
    have hu := hu_of hr
    obtain ⟨A, S, f, K0, b, M, rfl, ow, h7, q⟩ := h
    refine ⟨_, (pss_cons (ps_expr (C8.pe_c c_check_flag hr (by decide) rfl (pa_cons (pv 1) pa_nil)))
      (pss_one (ps_ret (C8.pe_c c_put_changedL hr (by decide) rfl (pa_cons (pe_fld (pv 0) rfl) (pa_cons (pv 1) (pa_cons pe_bl pa_nil))))))), ?_⟩
    have B := ow.at_
    have h1 := ow.obj
    obtain ⟨rv, fv, p1, p2, sp⟩ := ow.ex
    refine ⟨_, rfl, f, rfl, h7, ?_⟩
    refine ⟨_, rfl, _, _, _, _, _, rfl, h1, T.cl_HouseBoard, T.t_HouseBoard_flags, rfl, _, rfl, A.fl, f, true, b.fl, rfl, sp.c3, by have := ow.bk.fl; omega, ?_⟩
    rw [nb]
    exact q _ (ow.mk2 (ow.bk.flag f true) rfl rfl p1 p2 sp.put3)
abbrev N_Board_clear_flag : List Str := ["self", "flag"]
theorem sc_Board_clear_flag : FnScope N_Board_clear_flag ["self", "flag"] (C8.fnScope s_Board_clear_flag) := C8.fnScope_by (by decide +kernel)
theorem ok_Board_clear_flag {fd : FuncData} (T : Txt K mg) (F : FunD K "clear_flag" "Board.clear_flag" (C8.fnArgs s_Board_clear_flag) (C8.fnBody s_Board_clear_flag) (C8.fnScope s_Board_clear_flag) [] [] (He.ma K (aC "Board" K) "clear_flag") fd) (c_check_flag : C8.Cal P w K mg base 2 "check_flag" sp_check_flag []) (c_put_changedL : C8.Cal P w K mg base 1 "put_changed" sp_put_changedL []) :
    C8.Met P w K mg base 3 (aC "HouseBoard" K) "clear_flag" (sp_Board_clear_flag K) [] := by
  refine C8.met0 T.cl_HouseBoard T.h_clear_flag (fun_c8 F) (F.bindsN fun _ _ _ _ _ _ us hl => match us, hl with | [_, _], _ => rfl) sc_Board_clear_flag (fun vs H Q E h => ?_) (fun cdv A outer s H vs Q E hr h => ?_)
  · obtain ⟨_, _, _, _, _, _, rfl, _⟩ := h
    rfl
  · have nd := sc_Board_clear_flag.nd
    have hu := hu_of hr
    obtain ⟨A, S, f, K0, b, M, rfl, ow, h7, q⟩ := h
    refine ⟨_, (pss_cons (ps_expr (C8.pe_c c_check_flag hr (by decide) rfl (pa_cons (pv 1) pa_nil)))
      (pss_one (ps_ret (C8.pe_c c_put_changedL hr (by decide) rfl (pa_cons (pe_fld (pv 0) rfl) (pa_cons (pv 1) (pa_cons pe_bl pa_nil))))))), ?_⟩
    have B := ow.at_
    have h1 := ow.obj
    obtain ⟨rv, fv, p1, p2, sp⟩ := ow.ex
    refine ⟨_, rfl, f, rfl, h7, ?_⟩
    refine ⟨_, rfl, _, _, _, _, _, rfl, h1, T.cl_HouseBoard, T.t_HouseBoard_flags, rfl, _, rfl, A.fl, f, false, b.fl, rfl, sp.c3, by have := ow.bk.fl; omega, ?_⟩
    rw [nb']
    exact q _ (ow.mk2 (ow.bk.flag f false) rfl rfl p1 p2 sp.put3)
abbrev N_Board_begin : List Str := ["self", "line"]
theorem sc_Board_begin : FnScope N_Board_begin ["self", "line"] (C8.fnScope s_Board_begin) := C8.fnScope_by (by decide +kernel)
theorem ok_Board_begin {fd : FuncData} (T : Txt K mg) (F : FunD K "begin" "Board.begin" (C8.fnArgs s_Board_begin) (C8.fnBody s_Board_begin) (C8.fnScope s_Board_begin) [] [] (He.ma K (aC "Board" K) "begin") fd) (c_is_edge : C8.Met P w K mg base 4 (aC "HouseBoard" K) "_is_edge" (sp_Board_is_edge K) []) :
    BFn P w K mg base 5 (He.ma K (aC "Board" K) "begin") (sp_Board_begin K) := by
  refine fnR0 (fun_c8 F) (F.bindsN fun _ _ _ _ _ _ us hl => match us, hl with | [_, _], _ => rfl) sc_Board_begin (fun vs H Q E h => ?_) (fun cdv A outer s H vs Q E hr h => ?_)
  · obtain ⟨_, _, _, _, _, _, rfl, _⟩ := h
    rfl
  · have nd := sc_Board_begin.nd
    have hu := hu_of hr
    obtain ⟨A, S, l, K0, b, M, rfl, ow, hl, q⟩ := h
    refine ⟨_, (pss_cons (ps_if (pt_val (C8.pe_mt c_is_edge hr (by decide) (pv 0) (pa_cons (pv 1) pa_nil))) (pss_one (ps_dput hu (pe_fld (pv 0) rfl) (pv 1) pe_bl rfl)) pss_nil)
      (pss_one (ps_dput hu (pe_fld (pv 0) rfl) (pv 1) pe_bl rfl))), ?_⟩
    have B := ow.at_
    have h1 := ow.obj
    obtain ⟨rv, fv, p1, p2, sp⟩ := ow.ex
    have hm := B.ok.mem hl
    refine ⟨_, rfl, A.bo, A.db, _, rfl, h1, rfl, _, rfl, A, S, l, rfl, B, hl, _, rfl, ?_⟩
    cases e : l.lvl with
    | true =>
      have dp2 := DPut.k (k := .inr l.name) (v := .bl true) sp.c2 (bd_len B.ok _)
      rw [putK_bd hm] at dp2
      exact iteF ⟨_, rfl, _, _, _, _, _, rfl, h1, T.cl_HouseBoard, T.t_HouseBoard_under_way, rfl, _, rfl, A.u, _, rfl, dp2, q _ (ow.mk2 (ow.bk.begin0 l) rfl rfl p1 p2 (by unfold beginB0; rw [e, if_pos rfl]; exact sp.put2))⟩
    | false =>
      have dp := DPut.k (k := .inr l.name) (v := .bl false) sp.c0 (bd_len B.ok _)
      rw [putK_bd hm] at dp
      refine iteT ⟨_, rfl, _, _, _, _, _, rfl, h1, T.cl_HouseBoard, T.t_HouseBoard_rung, rfl, _, rfl, A.r, _, rfl, dp, ?_⟩
      have sp2 := sp.put0 (o' := .dK (bd S.order (fset b.rung l.name false)))
      have h9 := sp2.c5
      have dp2 := DPut.k (k := .inr l.name) (v := .bl true) sp2.c2 (bd_len B.ok _)
      rw [putK_bd hm] at dp2
      exact ⟨_, rfl, _, _, _, _, _, rfl, h9, T.cl_HouseBoard, T.t_HouseBoard_under_way, rfl, _, rfl, A.u, _, rfl, dp2, q _ (ow.mk2 (ow.bk.begin0 l) rfl rfl p1 p2 (by unfold beginB0; rw [e, if_neg (by simp)]; exact sp2.put2))⟩
abbrev N_Board_end : List Str := ["self", "line"]
theorem sc_Board_end : FnScope N_Board_end ["self", "line"] (C8.fnScope s_Board_end) := C8.fnScope_by (by decide +kernel)
theorem ok_Board_end {fd : FuncData} (T : Txt K mg) (F : FunD K "end" "Board.end" (C8.fnArgs s_Board_end) (C8.fnBody s_Board_end) (C8.fnScope s_Board_end) [] [] (He.ma K (aC "Board" K) "end") fd) :
    BFn P w K mg base 1 (He.ma K (aC "Board" K) "end") (sp_Board_end K) := by
  refine fnR0 (fun_c8 F) (F.bindsN fun _ _ _ _ _ _ us hl => match us, hl with | [_, _], _ => rfl) sc_Board_end (fun vs H Q E h => ?_) (fun cdv A outer s H vs Q E hr h => ?_)
  · obtain ⟨_, _, _, _, _, _, rfl, _⟩ := h
    rfl
  · have nd := sc_Board_end.nd
    have hu := hu_of hr
    obtain ⟨A, S, l, K0, b, M, rfl, ow, hl, q⟩ := h
    refine ⟨_, (pss_one (ps_dput hu (pe_fld (pv 0) rfl) (pv 1) pe_bl rfl)), ?_⟩
    have B := ow.at_
    have h1 := ow.obj
    obtain ⟨rv, fv, p1, p2, sp⟩ := ow.ex
    have hm := B.ok.mem hl
    have dp := DPut.k (k := .inr l.name) (v := .bl false) sp.c2 (bd_len B.ok _)
    rw [putK_bd hm] at dp
    exact ⟨_, rfl, _, _, _, _, _, rfl, h1, T.cl_HouseBoard, T.t_HouseBoard_under_way, rfl, _, rfl, A.u, _, rfl, dp, q _ (ow.mk2 (ow.bk.end0 l) rfl rfl p1 p2 sp.put2)⟩
abbrev N_Board_is_up : List Str := ["self", "flag"]
theorem sc_Board_is_up : FnScope N_Board_is_up ["self", "flag"] (C8.fnScope s_Board_is_up) := C8.fnScope_by (by decide +kernel)
theorem ok_Board_is_up {fd : FuncData} (T : Txt K mg) (F : FunD K "is_up" "Board.is_up" (C8.fnArgs s_Board_is_up) (C8.fnBody s_Board_is_up) (C8.fnScope s_Board_is_up) [] [] (He.ma K (aC "Board" K) "is_up") fd) :
    C8.Met P w K mg base 1 (aC "HouseBoard" K) "is_up" (sp_Board_is_up K) [] := by
  refine C8.met0 T.cl_HouseBoard T.h_is_up (fun_c8 F) (F.bindsN fun _ _ _ _ _ _ us hl => match us, hl with | [_, _], _ => rfl) sc_Board_is_up (fun vs H Q E h => ?_) (fun cdv A outer s H vs Q E hr h => ?_)
  · obtain ⟨_, _, _, _, _, _, rfl, _⟩ := h
    rfl
  · have nd := sc_Board_is_up.nd
    have hu := hu_of hr
    obtain ⟨A, S, f, K0, b, M, rfl, ow, h7, q⟩ := h
    refine ⟨_, (pss_one (ps_ret (pe_ix ix_list (pe_fld (pv 0) rfl) (pv 1) (fun _ _ => rfl)))), ?_⟩
    have B := ow.at_
    have h1 := ow.obj
    obtain ⟨rv, fv, p1, p2, sp⟩ := ow.ex
    exact ⟨_, rfl, _, _, _, _, _, rfl, h1, T.cl_HouseBoard, T.t_HouseBoard_flags, rfl, _, rfl, _, _, _, _, rfl, rfl, l_of sp.c3, atF (by have := ow.bk.fl; omega), q⟩
abbrev N_Board_is_enabled : List Str := ["self", "line"]
theorem sc_Board_is_enabled : FnScope N_Board_is_enabled ["self", "line"] (C8.fnScope s_Board_is_enabled) := C8.fnScope_by (by decide +kernel)
theorem ok_Board_is_enabled {fd : FuncData} (T : Txt K mg) (F : FunD K "is_enabled" "Board.is_enabled" (C8.fnArgs s_Board_is_enabled) (C8.fnBody s_Board_is_enabled) (C8.fnScope s_Board_is_enabled) [] [] (He.ma K (aC "Board" K) "is_enabled") fd) :
    C8.Met P w K mg base 1 (aC "HouseBoard" K) "is_enabled" (sp_Board_is_enabled K) [] := by
  refine C8.met0 T.cl_HouseBoard T.h_is_enabled (fun_c8 F) (F.bindsN fun _ _ _ _ _ _ us hl => match us, hl with | [_, _], _ => rfl) sc_Board_is_enabled (fun vs H Q E h => ?_) (fun cdv A outer s H vs Q E hr h => ?_)
  · obtain ⟨_, _, _, _, _, _, rfl, _⟩ := h
    rfl
  · have nd := sc_Board_is_enabled.nd
    have hu := hu_of hr
    obtain ⟨A, S, l, K0, b, M, rfl, ow, hl, q⟩ := h
    refine ⟨_, (pss_one (ps_ret (pe_not (pe_dget hu (pe_fld (pv 0) rfl) (pv 1) (fun _ _ => rfl))))), ?_⟩
    have B := ow.at_
    have h1 := ow.obj
    obtain ⟨rv, fv, p1, p2, sp⟩ := ow.ex
    have hm := B.ok.mem hl
    exact ⟨_, rfl, _, _, _, _, _, rfl, h1, T.cl_HouseBoard, T.t_HouseBoard_disabled, rfl, _, rfl, A.d, _, rfl, bd_at hm ▸ DGet.k (k := .inr l.name) sp.c1, _, rfl, q⟩
abbrev N_Board_is_high : List Str := ["self", "line"]
theorem sc_Board_is_high : FnScope N_Board_is_high ["self", "line"] (C8.fnScope s_Board_is_high) := C8.fnScope_by (by decide +kernel)
theorem ok_Board_is_high {fd : FuncData} (T : Txt K mg) (F : FunD K "is_high" "Board.is_high" (C8.fnArgs s_Board_is_high) (C8.fnBody s_Board_is_high) (C8.fnScope s_Board_is_high) [] [] (He.ma K (aC "Board" K) "is_high") fd) (c_is_edge : C8.Met P w K mg base 4 (aC "HouseBoard" K) "_is_edge" (sp_Board_is_edge K) []) :
    C8.Met P w K mg base 5 (aC "HouseBoard" K) "is_high" (sp_Board_is_high K) [] := by
  refine C8.met0 T.cl_HouseBoard T.h_is_high (fun_c8 F) (F.bindsN fun _ _ _ _ _ _ us hl => match us, hl with | [_, _], _ => rfl) sc_Board_is_high (fun vs H Q E h => ?_) (fun cdv A outer s H vs Q E hr h => ?_)
  · obtain ⟨_, _, _, _, _, _, rfl, _⟩ := h
    rfl
  · have nd := sc_Board_is_high.nd
    have hu := hu_of hr
    obtain ⟨A, S, l, K0, b, M, rfl, ow, hl, q⟩ := h
    refine ⟨_, (pss_one (ps_ret (pe_and (pe_dget hu (pe_fld (pv 0) rfl) (pv 1) (fun _ _ => rfl)) (pe_one (pe_not (C8.pe_mt c_is_edge hr (by decide) (pv 0) (pa_cons (pv 1) pa_nil))))))), ?_⟩
    have B := ow.at_
    have h1 := ow.obj
    obtain ⟨rv, fv, p1, p2, sp⟩ := ow.ex
    have hm := B.ok.mem hl
    refine ⟨_, rfl, _, _, _, _, _, rfl, h1, T.cl_HouseBoard, T.t_HouseBoard_rung, rfl, _, rfl, A.r, _, rfl, bd_at hm ▸ DGet.k (k := .inr l.name) sp.c0, _, rfl, ?_⟩
    cases e : b.rung l.name with
    | false =>
      rw [e] at q
      exact iteF q
    | true =>
      rw [e] at q
      refine iteT ⟨_, rfl, A.bo, A.db, _, rfl, h1, rfl, _, rfl, A, S, l, rfl, B, hl, _, rfl, ?_⟩
      rw [Bool.true_and] at q
      rw [Bool.not_not]
      exact q
abbrev N_Board_waits : List Str := ["self", "line"]
theorem sc_Board_waits : FnScope N_Board_waits ["self", "line"] (C8.fnScope s_Board_waits) := C8.fnScope_by (by decide +kernel)
theorem ok_Board_waits {fd : FuncData} (T : Txt K mg) (F : FunD K "waits" "Board.waits" (C8.fnArgs s_Board_waits) (C8.fnBody s_Board_waits) (C8.fnScope s_Board_waits) [] [] (He.ma K (aC "Board" K) "waits") fd) (c_is_edge : C8.Met P w K mg base 4 (aC "HouseBoard" K) "_is_edge" (sp_Board_is_edge K) []) :
    C8.Met P w K mg base 5 (aC "HouseBoard" K) "waits" (sp_Board_waits K) [] := by
  refine C8.met0 T.cl_HouseBoard T.h_waits (fun_c8 F) (F.bindsN fun _ _ _ _ _ _ us hl => match us, hl with | [_, _], _ => rfl) sc_Board_waits (fun vs H Q E h => ?_) (fun cdv A outer s H vs Q E hr h => ?_)
  · obtain ⟨_, _, _, _, _, _, rfl, _⟩ := h
    rfl
  · have nd := sc_Board_waits.nd
    have hu := hu_of hr
    obtain ⟨A, S, l, K0, b, M, rfl, ow, hl, q⟩ := h
    refine ⟨_, (pss_one (ps_ret (pe_and (pe_dget hu (pe_fld (pv 0) rfl) (pv 1) (fun _ _ => rfl)) (pe_one (pe_or (C8.pe_mt c_is_edge hr (by decide) (pv 0) (pa_cons (pv 1) pa_nil)) (pe_one (pe_not (pe_dget hu (pe_fld (pv 0) rfl) (pv 1) (fun _ _ => rfl))))))))), ?_⟩
    have B := ow.at_
    have h1 := ow.obj
    obtain ⟨rv, fv, p1, p2, sp⟩ := ow.ex
    have hm := B.ok.mem hl
    unfold waitsB at q
    refine ⟨_, rfl, _, _, _, _, _, rfl, h1, T.cl_HouseBoard, T.t_HouseBoard_rung, rfl, _, rfl, A.r, _, rfl, bd_at hm ▸ DGet.k (k := .inr l.name) sp.c0, _, rfl, ?_⟩
    cases e : b.rung l.name with
    | false =>
      rw [e] at q
      exact iteF q
    | true =>
      rw [e, Bool.true_and] at q
      refine iteT ⟨_, rfl, A.bo, A.db, _, rfl, h1, rfl, _, rfl, A, S, l, rfl, B, hl, _, rfl, ?_⟩
      cases e2 : l.lvl with
      | false =>
        rw [e2] at q
        exact iteT q
      | true =>
        rw [e2] at q
        exact iteF ⟨_, rfl, _, _, _, _, _, rfl, h1, T.cl_HouseBoard, T.t_HouseBoard_under_way, rfl, _, rfl, A.u, _, rfl, bd_at hm ▸ DGet.k (k := .inr l.name) sp.c2, _, rfl, q⟩
end
end Cb

namespace Cb
open PySem PySem.Spec PyProof.Rows L2

open NdefX
abbrev pF (P : Program) : Str := P.main.file
structure ProgOk (P : Program) : Prop where
  top : (P.main.scope.names.lookup ("super" : Str)).isSome = false
theorem hb_cls {K : PySem.W.Frag} {mg : Str → Option Value} (T : Txt K mg) : ∃ cd, PySem.W.clsIn K (aC "HouseBoard" K) = some cd := by
  have h := T.mr_HB
  unfold PySem.W.mroIn at h
  cases e : PySem.W.clsIn K (aC "HouseBoard" K) with
  | none => rw [e] at h; cases h
  | some cd => exact ⟨cd, rfl⟩
theorem hb_sup {K : PySem.W.Frag} {mg : Str → Option Value} (T : Txt K mg) {m : Str} {g : Addr} (sm : PySem.W.ks_superIn K (aC "HouseBoard" K) (aC "HouseBoard" K) m = some (some (.ref g))) (me : PySem.W.isFn K (.ref g) = true) (fi : PySem.W.fnIn K g = true) : SupM K (aC "HouseBoard" K) (aC "HouseBoard" K) m g := by
  refine ⟨sm, beq_iff_eq.mp (show (PySem.W.typeIn K (.ref g) == some (.type "function")) = true from me), fi, T.mr_HB, ?_, T.op_any⟩
  obtain ⟨cd, hc⟩ := hb_cls T
  have ht : (K.lookup (aC "HouseBoard" K)).map (·.cls) = some (.type "type") := T.ty_HB
  unfold PySem.W.clsIn at hc
  cases e : K.lookup (aC "HouseBoard" K) with
  | none => rw [e] at hc; cases hc
  | some o =>
    obtain ⟨oc, od, dt, sl⟩ := o
    rw [e] at hc ht
    have ht : oc = .type "type" := Option.some.inj ht
    subst ht
    cases dt with
    | cls c => exact ⟨c, sl, od, rfl⟩
    | _ => cases hc
theorem bindsS {K : PySem.W.Frag} {file x qual : Str} {params : Arguments} {body : List Stmt} {scope : Scope} {kws : List (Str × V)} {f D : Addr} {fd : FuncData} {ps : List Str} (F : FunS K file x qual params body scope [] kws f D fd)
    (h : ∀ (cl : List (Str × Addr)) (kV doc pm : Value) (an : Option Addr) (z : Value × Value) (us : List Value), us.length = ps.length → bindArgs (PySem.W.fnX x qual params body scope cl .none kV doc pm an z.1 z.2) ⟨us, []⟩ = pure (ps.zip us)) : L2.Binds K fd ps [] := by
  obtain ⟨oc, od, dV, kV, doc, pm, an, cc, cda, ct, osl, rfl, lk, hcd, hD, hK, _⟩ := F.ex
  rcases hD with ⟨_, rfl⟩ | ⟨e, _⟩
  · exact .all (h _ kV doc pm an (.ref cda, ct))
  · exact absurd rfl e
def noteB (b : BdD) (n : Str) (mb : Bool) : BdD := { b with rg := b.rg ++ [(b.tk, n)], fa := b.fa ++ [if mb then .merged (b.nu n) else .wait], nu := (if mb then b.nu else oset b.nu n (some b.rg.length)) }
theorem ringB_edge {b : BdD} {n : Str} (h : b.lev n = false) : ringB b n = noteB (ringB0 b n) n (b.rung n) := by
  unfold ringB noteB ringB0
  simp [h]
theorem ringB_lvl {b : BdD} {n : Str} (h : b.lev n = true) : ringB b n = ringB0 b n := by
  unfold ringB ringB0
  simp [h]
theorem BdOk.note {S : SetD} {b : BdD} (h : BdOk S b) (n : Str) (mb : Bool) : BdOk S (noteB b n mb) := by
  refine ⟨h.lv, h.fl, by simp [noteB, h.nk.len], fun m k e => ?_⟩
  show k < (b.fa ++ [_]).length
  rw [List.length_append]
  have e : (if mb then b.nu else oset b.nu n (some b.rg.length)) m = some k := e
  cases mb with
  | true => have := h.nk.lt m k e; simp; omega
  | false =>
    have e : oset b.nu n (some b.rg.length) m = some k := e
    unfold oset at e
    split at e
    · have := Option.some.inj e; have := h.nk.len; simp; omega
    · have := h.nk.lt m k e; simp; omega
theorem BdOk.ring {S : SetD} {b : BdD} (h : BdOk S b) (n : Str) : BdOk S (ringB b n) := by
  cases e : b.lev n with
  | true => rw [ringB_lvl e]; exact h.ring0 n
  | false => rw [ringB_edge e]; exact (h.ring0 n).note n _
theorem BdOk.quiet {S : SetD} {b : BdD} (h : BdOk S b) (n : Str) : BdOk S (quietB b n) := ⟨h.lv, h.fl, h.nk.len, h.nk.lt⟩
theorem served_len {b : BdD} {n : Str} : (servedF b n).length = b.fa.length := by
  unfold servedF
  split
  · rw [List.length_set]
  · rfl
theorem BdOk.begin {S : SetD} {b : BdD} (h : BdOk S b) (l : LineD) : BdOk S (beginB b l) := by
  refine ⟨h.lv, h.fl, by show (servedF b l.name).length = b.rg.length; rw [served_len]; exact h.nk.len, fun m k e => ?_⟩
  show k < (servedF b l.name).length
  rw [served_len]
  have e : oset b.nu l.name none m = some k := e
  unfold oset at e
  split at e
  · cases e
  · exact h.nk.lt m k e
theorem BdOk.end {S : SetD} {b : BdD} (h : BdOk S b) (l : LineD) : BdOk S (endB b l) := ⟨h.lv, h.fl, h.nk.len, h.nk.lt⟩
theorem BdOk.act {S : SetD} {b : BdD} (h : BdOk S b) (st : SD) : BdOk S (actB b st) := by
  cases st with
  | ring n => exact h.ring n
  | quiet n => exact h.quiet n
  | mask n => exact h.mask n true
  | unmask n => exact h.mask n false
  | setf f => exact h.flag f true
  | clearf f => exact h.flag f false
  | _ => exact h
theorem pset {α β : Type} {F : α → β → Prop} {x : α} {y : β} (h : F x y) : ∀ {l : List α} {m : List β}, Paired F l m → ∀ i, Paired F (l.set i x) (m.set i y)
  | _, _, .nil, _ => by simpa using Paired.nil
  | _, _, .cons f p, 0 => .cons h p
  | _, _, .cons f p, i + 1 => .cons f (pset h p i)
theorem sml16 {n : Nat} (h : n < 16000000) : n < sizeLine := Nat.lt_of_lt_of_le h (by decide)
def sp_HouseBoard_note_ring (K : PySem.W.Frag) : Sp := fun vs H Q _ => ∃ (A : AdB) (S : SetD) (l : LineD) (mb : Bool) (K0 : Hp) (b : BdD) (M : List (Addr × HO)), vs = [.ref A.bo, .str l.name, .bl mb] ∧ OwnB K A S K0 H b M ∧ l ∈ S.ls ∧ b.rg.length < 16000000 ∧
  ∀ K1 H', Same K0 K1 → OwnB K A S K1 H' (noteB b l.name mb) M → Q .non H'
def sp_HouseBoard_ring (K : PySem.W.Frag) : Sp := fun vs H Q _ => ∃ (A : AdB) (S : SetD) (l : LineD) (K0 : Hp) (b : BdD) (M : List (Addr × HO)), vs = [.ref A.bo, .str l.name] ∧ OwnB K A S K0 H b M ∧ l ∈ S.ls ∧ b.rg.length < 16000000 ∧
  ∀ K1 H', Same K0 K1 → OwnB K A S K1 H' (ringB b l.name) M → Q (.str (ringR (b.rung l.name))) H'
def sp_HouseBoard_quiet (K : PySem.W.Frag) : Sp := fun vs H Q _ => ∃ (A : AdB) (S : SetD) (l : LineD) (K0 : Hp) (b : BdD) (M : List (Addr × HO)), vs = [.ref A.bo, .str l.name] ∧ OwnB K A S K0 H b M ∧ l ∈ S.ls ∧ l.lvl = true ∧
  ∀ H', OwnB K A S K0 H' (quietB b l.name) M → Q (.bl (b.rung l.name)) H'
def sp_HouseBoard_begin (K : PySem.W.Frag) : Sp := fun vs H Q _ => ∃ (A : AdB) (S : SetD) (l : LineD) (K0 : Hp) (b : BdD) (M : List (Addr × HO)), vs = [.ref A.bo, .str l.name] ∧ OwnB K A S K0 H b M ∧ l ∈ S.ls ∧
  ∀ K1 H', Same K0 K1 → OwnB K A S K1 H' (beginB b l) M → Q .non H'
def sp_HouseBoard_end (K : PySem.W.Frag) : Sp := fun vs H Q _ => ∃ (A : AdB) (S : SetD) (l : LineD) (K0 : Hp) (b : BdD) (M : List (Addr × HO)), vs = [.ref A.bo, .str l.name] ∧ OwnB K A S K0 H b M ∧ l ∈ S.ls ∧
  ∀ H', OwnB K A S K0 H' (endB b l) M → Q .non H'
def sp_Board_act (K : PySem.W.Frag) : Sp := fun vs H Q _ => ∃ (A : AdB) (S : SetD) (st : SD) (K0 : Hp) (b : BdD) (M : List (Addr × HO)), vs = [.ref A.bo, .str st.word, st.arg] ∧ OwnB K A S K0 H b M ∧ StepOk S.ls S.ws st ∧ st.onB = true ∧ b.rg.length < 16000000 ∧
  ∀ K1 H', Same K0 K1 → OwnB K A S K1 H' (actB b st) M → Q .non H'

section
variable {P : Program} {w : World} {K : PySem.W.Frag} {mg : Str → Option Value} {base : Heap}

abbrev N_HouseBoard_note_ring : List Str := ["self", "line", "is_merged"]
theorem sc_HouseBoard_note_ring : FnScope N_HouseBoard_note_ring ["self", "line", "is_merged"] (C8.fnScope s_HouseBoard_note_ring) := C8.fnScope_by (by decide +kernel)
theorem ok_HouseBoard_note_ring {fd : FuncData} (T : Txt K mg) (F : FunD K "_note_ring" "HouseBoard._note_ring" (C8.fnArgs s_HouseBoard_note_ring) (C8.fnBody s_HouseBoard_note_ring) (C8.fnScope s_HouseBoard_note_ring) [] [] (He.ma K (aC "HouseBoard" K) "_note_ring") fd) :
    C8.Met P w K mg base 1 (aC "HouseBoard" K) "_note_ring" (sp_HouseBoard_note_ring K) [] := by
  refine C8.met0 T.cl_HouseBoard T.m_HouseBoard_note_ring (fun_c8 F) (F.bindsN fun _ _ _ _ _ _ us hl => match us, hl with | [_, _, _], _ => rfl) sc_HouseBoard_note_ring (fun vs H Q E h => ?_) (fun cdv A outer s H vs Q E hr h => ?_)
  · obtain ⟨_, _, _, _, _, _, _, rfl, _⟩ := h
    rfl
  · have nd := sc_HouseBoard_note_ring.nd
    have hu := hu_of hr
    obtain ⟨A, S, l, mb, K0, b, M, rfl, ow, hl, hn, q⟩ := h
    refine ⟨_, (pss_cons (ps_if (pt_val (pv 2)) (pss_one (ps_expr (pe_bm PySem.F.plainAttrs_list PySem.F.slot_list_append PySem.F.type_list_append mt_append (pe_fld (pv 0) rfl) (pa_cons (pe_tup (pa_cons pe_str (pa_cons (pe_dget hu (pe_fld (pv 0) rfl) (pv 1) (fun _ _ => rfl)) pa_nil))) pa_nil)))) (pss_cons (ps_expr (pe_bm PySem.F.plainAttrs_list PySem.F.slot_list_append PySem.F.type_list_append mt_append (pe_fld (pv 0) rfl) (pa_cons pe_non pa_nil)))
      (pss_one (ps_dput hu (pe_fld (pv 0) rfl) (pv 1) (pe_callB call_len_seq (by rfl) T.n_len (by decide +kernel) (pa_cons (pe_fld (pv 0) rfl) pa_nil)) rfl))))
      (pss_one (ps_expr (pe_bm PySem.F.plainAttrs_list PySem.F.slot_list_append PySem.F.type_list_append mt_append (pe_fld (pv 0) rfl) (pa_cons (pe_tup (pa_cons (pe_fld (pv 0) rfl) (pa_cons (pv 1) pa_nil))) pa_nil))))), ?_⟩
    have B := ow.at_
    have h1 := ow.obj
    obtain ⟨rv, fv, p1, p2, sp⟩ := ow.ex
    have hm := B.ok.mem hl
    have hfl : fv.length < sizeLine := sml16 (by rw [p2.length, ow.bk.nk.len]; exact hn)
    cases mb with
    | true =>
      refine ⟨_, rfl, _, rfl, iteT ?_⟩
      refine ⟨_, rfl, _, _, _, _, _, rfl, h1, T.cl_HouseBoard, T.t_HouseBoard_fates, rfl, .inl ⟨rfl, _, .inl (.inl sp.c9)⟩, _, rfl, _, _, _, _, _, rfl, h1, T.cl_HouseBoard, T.t_HouseBoard_numbers, rfl, _, rfl, A.nu, _, rfl, on_at hm ▸ DGet.k (k := .inr l.name) sp.c10, small8 (by simp), fun t ht => ?_⟩
      have sp1 := sp.keep (o := .tup [.str "merged", optN (b.nu l.name)]) ht
      have g1 := sp.newk (o := .tup [.str "merged", optN (b.nu l.name)]) ht
      refine ⟨_, _, _, rfl, rfl, sp1.c9, hfl, ?_⟩
      have sp2 := sp1.put9 (y := .lst (fv ++ [.ref t]))
      have hT := sp2.c5
      refine ⟨_, rfl, _, _, _, _, _, rfl, hT, T.cl_HouseBoard, T.t_HouseBoard_rings, rfl, .inl ⟨rfl, _, .inl (.inl sp2.c8)⟩, _, rfl, _, _, _, _, _, rfl, hT, T.cl_HouseBoard, T.t_HouseBoard_tick, rfl, _, rfl, small8 (by simp), fun t2 ht2 => ?_⟩
      have spY := sp2.keep (o := .tup [.int b.tk, .str l.name]) ht2
      have gY := sp2.newk (o := .tup [.int b.tk, .str l.name]) ht2
      refine ⟨_, _, _, rfl, rfl, spY.c8, sml16 (by rw [p1.length]; exact hn), ?_⟩
      have gA := Same.tr g1 gY
      exact q _ _ gA ⟨SetupAt.up gA ow.su, ow.ok, ow.bk.note l.name true, rv ++ [.ref t2], fv ++ [.ref t], Paired.snoc (p1.mono fun _ _ z => RgAt.up gA z) ⟨t2, rfl, t_of upd_same⟩, Paired.snoc (p2.mono fun _ _ z => FtAt.up gA z) ⟨t, rfl, t_of (gY _ _ upd_same)⟩, spY.put8⟩
    | false =>
      refine ⟨_, rfl, _, rfl, iteF ?_⟩
      refine ⟨_, rfl, _, _, _, _, _, rfl, h1, T.cl_HouseBoard, T.t_HouseBoard_fates, rfl, .inl ⟨rfl, _, .inl (.inl sp.c9)⟩, _, _, _, rfl, rfl, sp.c9, hfl, ?_⟩
      have sp1 := sp.put9 (y := .lst (fv ++ [.non]))
      have h2 := sp1.c5
      have dp := DPut.k (k := .inr l.name) (v := optN (some b.rg.length)) sp1.c10 (on_len ow.ok _)
      rw [putK_on hm] at dp
      refine ⟨_, rfl, _, _, _, _, _, rfl, h2, T.cl_HouseBoard, T.t_HouseBoard_rings, rfl, _, _, rfl, .inl (l_of sp1.c8), ?_⟩
      rw [p1.length]
      refine ⟨_, rfl, _, _, _, _, _, rfl, h2, T.cl_HouseBoard, T.t_HouseBoard_numbers, rfl, _, rfl, A.nu, _, rfl, dp, ?_⟩
      have sp2 := sp1.put10 (y := .dK (onn S.order (oset b.nu l.name (some b.rg.length))))
      have hT := sp2.c5
      refine ⟨_, rfl, _, _, _, _, _, rfl, hT, T.cl_HouseBoard, T.t_HouseBoard_rings, rfl, .inl ⟨rfl, _, .inl (.inl sp2.c8)⟩, _, rfl, _, _, _, _, _, rfl, hT, T.cl_HouseBoard, T.t_HouseBoard_tick, rfl, _, rfl, small8 (by simp), fun t2 ht2 => ?_⟩
      have spY := sp2.keep (o := .tup [.int b.tk, .str l.name]) ht2
      have gY := sp2.newk (o := .tup [.int b.tk, .str l.name]) ht2
      refine ⟨_, _, _, rfl, rfl, spY.c8, sml16 (by rw [p1.length]; exact hn), ?_⟩
      have gA := Same.tr (Same.refl K0) gY
      exact q _ _ gA ⟨SetupAt.up gA ow.su, ow.ok, ow.bk.note l.name false, rv ++ [.ref t2], fv ++ [.non], Paired.snoc (p1.mono fun _ _ z => RgAt.up gA z) ⟨t2, rfl, t_of upd_same⟩, Paired.snoc (p2.mono fun _ _ z => FtAt.up gA z) (show FtAt K _ .non .wait from rfl), spY.put8⟩
abbrev N_HouseBoard_end : List Str := ["self", "line", "__class__"]
theorem sc_HouseBoard_end : NScope N_HouseBoard_end ["self", "line"] ["__class__"] (C8.fnScope s_HouseBoard_end) := nscope_by (by decide +kernel)
theorem ok_HouseBoard_end {fd : FuncData} (T : Txt K mg) (F : FunS K (pF P) "end" "HouseBoard.end" (C8.fnArgs s_HouseBoard_end) (C8.fnBody s_HouseBoard_end) (C8.fnScope s_HouseBoard_end) [] [] (He.ma K (aC "HouseBoard" K) "end") (aC "HouseBoard" K) fd) (hP : ProgOk P) (c_super : BFn P w K mg base 1 (He.ma K (aC "Board" K) "end") (sp_Board_end K)) :
    C8.Met P w K mg base 3 (aC "HouseBoard" K) "end" (sp_HouseBoard_end K) [] := by
  refine ⟨_, fd, ["self", "line"], [], T.cl_HouseBoard, T.m_HouseBoard_end, fnM F (beq_self_eq_true _) sc_HouseBoard_end T.n_super hP.top (by decide +kernel) (by decide +kernel) (by decide +kernel) ⟨_, rfl, rfl⟩ (hb_cls T) (fun vs H Q E h => ?_) (fun cc cda A outer s s1 H vs Q E T2 hr h I => ?_), bindsS F fun _ _ _ _ _ _ us hl => match us, hl with | [_, _], _ => rfl, .nil⟩
  · obtain ⟨_, _, _, _, _, _, rfl, _⟩ := h
    rfl
  · have nd := sc_HouseBoard_end.nd
    have hu := hu_of hr
    obtain ⟨A, S, l, K0, b, M, rfl, ow, hl, q⟩ := h
    refine wp_supX (Eb := C8.E0) T2 (hb_sup T T.sm_end T.m_Board_end.fn c_super.fi) rfl rfl c_super.r (hr.mono (by decide)) C8.pass0 (pa_cons (pv 1) pa_nil) (pss_one (ps_dput hu (pe_fld (pv 0) rfl) (pv 1) pe_non rfl)) I ?_
    have hm := ow.ok.mem hl
    refine ⟨A.bo, _, _, rfl, ow.obj, _, rfl, A, S, l, K0, b, M, rfl, ow, hl, fun H2 ow2 => ?_⟩
    have h1 := ow2.obj
    obtain ⟨rv, fv, p1, p2, sp⟩ := ow2.ex
    have dp := DPut.k (k := .inr l.name) (v := optV none) sp.c7 (od_len ow.ok _)
    rw [putK_od hm] at dp
    exact ⟨_, rfl, _, _, _, _, _, rfl, h1, T.cl_HouseBoard, T.t_HouseBoard_owners, rfl, _, rfl, A.ow, _, rfl, dp, q _ ⟨ow2.su, ow2.ok, ow.bk.end l, rv, fv, p1, p2, sp.put7⟩⟩
abbrev N_HouseBoard_quiet : List Str := ["self", "line", "__class__", "was_high"]
theorem sc_HouseBoard_quiet : NScope N_HouseBoard_quiet ["self", "line"] ["__class__"] (C8.fnScope s_HouseBoard_quiet) := nscope_by (by decide +kernel)
theorem ok_HouseBoard_quiet {fd : FuncData} (T : Txt K mg) (F : FunS K (pF P) "quiet" "HouseBoard.quiet" (C8.fnArgs s_HouseBoard_quiet) (C8.fnBody s_HouseBoard_quiet) (C8.fnScope s_HouseBoard_quiet) [] [] (He.ma K (aC "HouseBoard" K) "quiet") (aC "HouseBoard" K) fd) (hP : ProgOk P) (c_super : BFn P w K mg base 5 (He.ma K (aC "Board" K) "quiet") (sp_Board_quiet K)) :
    C8.Met P w K mg base 7 (aC "HouseBoard" K) "quiet" (sp_HouseBoard_quiet K) [] := by
  refine ⟨_, fd, ["self", "line"], [], T.cl_HouseBoard, T.m_HouseBoard_quiet, fnM F (beq_self_eq_true _) sc_HouseBoard_quiet T.n_super hP.top (by decide +kernel) (by decide +kernel) (by decide +kernel) ⟨_, rfl, rfl⟩ (hb_cls T) (fun vs H Q E h => ?_) (fun cc cda A outer s s1 H vs Q E T2 hr h I => ?_), bindsS F fun _ _ _ _ _ _ us hl => match us, hl with | [_, _], _ => rfl, .nil⟩
  · obtain ⟨_, _, _, _, _, _, rfl, _⟩ := h
    rfl
  · have nd := sc_HouseBoard_quiet.nd
    have hu := hu_of hr
    obtain ⟨A, S, l, K0, b, M, rfl, ow, hl, hv, q⟩ := h
    refine wp_supA nd (i := 3) rfl (by decide +kernel) T2 (Eb := C8.E0) (hb_sup T T.sm_quiet T.m_Board_quiet.fn c_super.fi) rfl rfl c_super.r (hr.mono (by decide)) C8.pass0 (pa_cons (pv 1) pa_nil) (pss_cons (ps_dput hu (pe_fld (pv 0) rfl) (pv 1) pe_non rfl)
  (pss_one (ps_ret (pv 3)))) I ?_
    have hm := ow.ok.mem hl
    refine ⟨A.bo, _, _, rfl, ow.obj, _, rfl, A, S, l, K0, b, M, rfl, ow, hl, hv, fun H2 ow2 => ?_⟩
    have h1 := ow2.obj
    obtain ⟨rv, fv, p1, p2, sp⟩ := ow2.ex
    have dp := DPut.k (k := .inr l.name) (v := optV none) sp.c6 (od_len ow.ok _)
    rw [putK_od hm] at dp
    exact ⟨_, rfl, _, _, _, _, _, rfl, h1, T.cl_HouseBoard, T.t_HouseBoard_places, rfl, _, rfl, A.pl, _, rfl, dp, _, rfl, q _ ⟨ow2.su, ow2.ok, ow.bk.quiet l.name, rv, fv, p1, p2, sp.put6⟩⟩
abbrev N_HouseBoard_ring : List Str := ["self", "line", "__class__", "word"]
theorem sc_HouseBoard_ring : NScope N_HouseBoard_ring ["self", "line"] ["__class__"] (C8.fnScope s_HouseBoard_ring) := nscope_by (by decide +kernel)
theorem ok_HouseBoard_ring {fd : FuncData} (T : Txt K mg) (F : FunS K (pF P) "ring" "HouseBoard.ring" (C8.fnArgs s_HouseBoard_ring) (C8.fnBody s_HouseBoard_ring) (C8.fnScope s_HouseBoard_ring) [] [] (He.ma K (aC "HouseBoard" K) "ring") (aC "HouseBoard" K) fd) (hP : ProgOk P) (c_super : BFn P w K mg base 3 (He.ma K (aC "Board" K) "ring") (sp_Board_ring K)) (c_is_edge : C8.Met P w K mg base 4 (aC "HouseBoard" K) "_is_edge" (sp_Board_is_edge K) []) (c_note_ring : C8.Met P w K mg base 1 (aC "HouseBoard" K) "_note_ring" (sp_HouseBoard_note_ring K) []) :
    C8.Met P w K mg base 6 (aC "HouseBoard" K) "ring" (sp_HouseBoard_ring K) [] := by
  refine ⟨_, fd, ["self", "line"], [], T.cl_HouseBoard, T.m_HouseBoard_ring, fnM F (beq_self_eq_true _) sc_HouseBoard_ring T.n_super hP.top (by decide +kernel) (by decide +kernel) (by decide +kernel) ⟨_, rfl, rfl⟩ (hb_cls T) (fun vs H Q E h => ?_) (fun cc cda A outer s s1 H vs Q E T2 hr h I => ?_), bindsS F fun _ _ _ _ _ _ us hl => match us, hl with | [_, _], _ => rfl, .nil⟩
  · obtain ⟨_, _, _, _, _, _, rfl, _⟩ := h
    rfl
  · have nd := sc_HouseBoard_ring.nd
    have hu := hu_of hr
    obtain ⟨A, S, l, K0, b, M, rfl, ow, hl, hn, q⟩ := h
    refine wp_supA nd (i := 3) rfl (by decide +kernel) T2 (Eb := C8.E0) (hb_sup T T.sm_ring T.m_Board_ring.fn c_super.fi) rfl rfl c_super.r (hr.mono (by decide)) C8.pass0 (pa_cons (pv 1) pa_nil) (pss_cons (ps_if (pt_val (C8.pe_mt c_is_edge hr (by decide) (pv 0) (pa_cons (pv 1) pa_nil))) (pss_one (ps_expr (C8.pe_mt c_note_ring hr (by decide) (pv 0) (pa_cons (pv 1) (pa_cons (pe_cmpR op_eq (pv 3) pe_str (nomark _)) pa_nil))))) pss_nil)
  (pss_one (ps_ret (pv 3)))) I ?_
    have hm := ow.ok.mem hl
    refine ⟨A.bo, _, _, rfl, ow.obj, _, rfl, A, S, l, K0, b, M, rfl, ow, hl, fun H2 ow2 => ?_⟩
    have h1 := ow2.obj
    have el := ow.bk.lv l hl
    refine ⟨_, rfl, A.bo, A.db, _, rfl, h1, rfl, _, rfl, A, S, l, rfl, ow2.at_, hl, _, rfl, ?_⟩
    cases e : l.lvl with
    | true =>
      refine iteF ?_
      refine ⟨_, rfl, q K0 H2 (Same.refl _) ?_⟩
      rw [ringB_lvl (by rw [el, e])]
      exact ow2
    | false =>
      refine iteT ?_
      refine ⟨_, rfl, A.bo, A.db, _, rfl, h1, rfl, _, rfl, _, rfl, rfl, A, S, l, b.rung l.name, K0, ringB0 b l.name, M, ?_, ow2, hl, hn, fun K1 H3 g3 ow3 => ?_⟩
      · cases b.rung l.name <;> rfl
      refine ⟨_, rfl, q K1 H3 g3 ?_⟩
      rw [ringB_edge (by rw [el, e])]
      exact ow3
abbrev N_HouseBoard_begin : List Str := ["self", "line", "__class__", "place", "number"]
theorem sc_HouseBoard_begin : NScope N_HouseBoard_begin ["self", "line"] ["__class__"] (C8.fnScope s_HouseBoard_begin) := nscope_by (by decide +kernel)
theorem ok_HouseBoard_begin {fd : FuncData} (T : Txt K mg) (F : FunS K (pF P) "begin" "HouseBoard.begin" (C8.fnArgs s_HouseBoard_begin) (C8.fnBody s_HouseBoard_begin) (C8.fnScope s_HouseBoard_begin) [] [] (He.ma K (aC "HouseBoard" K) "begin") (aC "HouseBoard" K) fd) (hP : ProgOk P) (c_super : BFn P w K mg base 5 (He.ma K (aC "Board" K) "begin") (sp_Board_begin K)) :
    C8.Met P w K mg base 7 (aC "HouseBoard" K) "begin" (sp_HouseBoard_begin K) [] := by
  refine ⟨_, fd, ["self", "line"], [], T.cl_HouseBoard, T.m_HouseBoard_begin, fnM F (beq_self_eq_true _) sc_HouseBoard_begin T.n_super hP.top (by decide +kernel) (by decide +kernel) (by decide +kernel) ⟨_, rfl, rfl⟩ (hb_cls T) (fun vs H Q E h => ?_) (fun cc cda A outer s s1 H vs Q E T2 hr h I => ?_), bindsS F fun _ _ _ _ _ _ us hl => match us, hl with | [_, _], _ => rfl, .nil⟩
  · obtain ⟨_, _, _, _, _, _, rfl, _⟩ := h
    rfl
  · have nd := sc_HouseBoard_begin.nd
    have hu := hu_of hr
    obtain ⟨A, S, l, K0, b, M, rfl, ow, hl, q⟩ := h
    refine wp_supX (Eb := C8.E0) T2 (hb_sup T T.sm_begin T.m_Board_begin.fn c_super.fi) rfl rfl c_super.r (hr.mono (by decide)) C8.pass0 (pa_cons (pv 1) pa_nil) (pss_cons (ps_set (i := 3) nd rfl (Or.inl rfl) (pe_dget hu (pe_fld (pv 0) rfl) (pv 1) (fun _ _ => rfl)))
  (pss_cons (ps_set (i := 4) nd rfl (Or.inl rfl) (pe_dget hu (pe_fld (pv 0) rfl) (pv 1) (fun _ _ => rfl)))
  (pss_cons (ps_if (pt_cmpR op_notN (pv 4) pe_non (nomark _)) (pss_one (ps_asg (pe_tup (pa_cons pe_str (pa_cons (pe_fld (pv 0) rfl) (pa_cons (pv 3) pa_nil)))) (pg_sub (pe_fld (pv 0) rfl) (pv 4) set_list))) pss_nil)
  (pss_cons (ps_dput hu (pe_fld (pv 0) rfl) (pv 1) pe_non rfl)
  (pss_cons (ps_dput hu (pe_fld (pv 0) rfl) (pv 1) pe_non rfl)
  (pss_one (ps_dput hu (pe_fld (pv 0) rfl) (pv 1) (pv 3) rfl))))))) I ?_
    have hm := ow.ok.mem hl
    refine ⟨A.bo, _, _, rfl, ow.obj, _, rfl, A, S, l, K0, b, M, rfl, ow, hl, fun H2 ow2 => ?_⟩
    have h1 := ow2.obj
    obtain ⟨rv, fv, p1, p2, sp⟩ := ow2.ex
    refine ⟨_, rfl, _, _, _, _, _, rfl, h1, T.cl_HouseBoard, T.t_HouseBoard_places, rfl, _, rfl, A.pl, _, rfl, od_at hm ▸ DGet.k (k := .inr l.name) sp.c6, ?_⟩
    refine ⟨_, rfl, _, _, _, _, _, rfl, h1, T.cl_HouseBoard, T.t_HouseBoard_numbers, rfl, _, rfl, A.nu, _, rfl, on_at hm ▸ DGet.k (k := .inr l.name) sp.c10, ?_⟩
    cases e : b.nu l.name with
    | none =>
      rw [show (beginB0 b l).nu l.name = none from e]
      refine ⟨_, rfl, rfl, false, rfl, iteF ?_⟩
      have ef : servedF b l.name = b.fa := by unfold servedF; rw [e]
      have spF := sp
      have h3 := spF.c5
      have dp := DPut.k (k := .inr l.name) (v := optN none) spF.c10 (on_len ow.ok _)
      rw [putK_on hm] at dp
      refine ⟨_, rfl, _, _, _, _, _, rfl, h3, T.cl_HouseBoard, T.t_HouseBoard_numbers, rfl, _, rfl, A.nu, _, rfl, dp, ?_⟩
      have spG := spF.put10 (y := .dK (onn S.order (oset b.nu l.name none)))
      have h4 := spG.c5
      have dp2 := DPut.k (k := .inr l.name) (v := optV none) spG.c6 (od_len ow.ok _)
      rw [putK_od hm] at dp2
      refine ⟨_, rfl, _, _, _, _, _, rfl, h4, T.cl_HouseBoard, T.t_HouseBoard_places, rfl, _, rfl, A.pl, _, rfl, dp2, ?_⟩
      have spH := spG.put6 (y := .dK (od S.order (oset b.pl l.name none)))
      have h5 := spH.c5
      have dp3 := DPut.k (k := .inr l.name) (v := optV (b.pl l.name)) spH.c7 (od_len ow.ok _)
      rw [putK_od hm] at dp3
      refine ⟨_, rfl, _, rfl, _, _, _, _, _, rfl, h5, T.cl_HouseBoard, T.t_HouseBoard_owners, rfl, _, rfl, A.ow, _, rfl, dp3, ?_⟩
      have spI := spH.put7 (y := .dK (od S.order (oset b.ow l.name (b.pl l.name))))
      exact q K0 _ (Same.refl K0) ⟨SetupAt.up (Same.refl K0) ow.su, ow.ok, ow.bk.begin l, rv, fv, p1, (by show Paired _ _ (servedF b l.name); rw [ef]; exact p2), spI⟩
    | some k =>
      rw [show (beginB0 b l).nu l.name = some k from e]
      refine ⟨_, rfl, rfl, true, rfl, iteT ?_⟩
      have hk := ow.bk.nk.lt _ _ e
      have hfk : k < fv.length := by rw [p2.length]; exact hk
      refine ⟨_, rfl, _, _, _, _, _, rfl, h1, T.cl_HouseBoard, T.t_HouseBoard_tick, rfl, _, rfl, small8 (by simp), fun t ht => ?_⟩
      have sp1 := sp.keep (o := .tup [.str "served", .int b.tk, optV (b.pl l.name)]) ht
      have g1 := sp.newk (o := .tup [.str "served", .int b.tk, optV (b.pl l.name)]) ht
      have h2 := sp1.c5
      refine ⟨_, rfl, _, _, _, _, _, rfl, h2, T.cl_HouseBoard, T.t_HouseBoard_fates, rfl, _, rfl, _, _, _, k, rfl, rfl, sp1.c9, ixNn hfk, ?_⟩
      have spF := sp1.put9 (y := .lst (fv.set k (.ref t)))
      have ef : servedF b l.name = b.fa.set k (.served b.tk (b.pl l.name)) := by unfold servedF; rw [e]
      have h3 := spF.c5
      have dp := DPut.k (k := .inr l.name) (v := optN none) spF.c10 (on_len ow.ok _)
      rw [putK_on hm] at dp
      refine ⟨_, rfl, _, _, _, _, _, rfl, h3, T.cl_HouseBoard, T.t_HouseBoard_numbers, rfl, _, rfl, A.nu, _, rfl, dp, ?_⟩
      have spG := spF.put10 (y := .dK (onn S.order (oset b.nu l.name none)))
      have h4 := spG.c5
      have dp2 := DPut.k (k := .inr l.name) (v := optV none) spG.c6 (od_len ow.ok _)
      rw [putK_od hm] at dp2
      refine ⟨_, rfl, _, _, _, _, _, rfl, h4, T.cl_HouseBoard, T.t_HouseBoard_places, rfl, _, rfl, A.pl, _, rfl, dp2, ?_⟩
      have spH := spG.put6 (y := .dK (od S.order (oset b.pl l.name none)))
      have h5 := spH.c5
      have dp3 := DPut.k (k := .inr l.name) (v := optV (b.pl l.name)) spH.c7 (od_len ow.ok _)
      rw [putK_od hm] at dp3
      refine ⟨_, rfl, _, rfl, _, _, _, _, _, rfl, h5, T.cl_HouseBoard, T.t_HouseBoard_owners, rfl, _, rfl, A.ow, _, rfl, dp3, ?_⟩
      have spI := spH.put7 (y := .dK (od S.order (oset b.ow l.name (b.pl l.name))))
      exact q _ _ g1 ⟨SetupAt.up g1 ow.su, ow.ok, ow.bk.begin l, rv, (fv.set k (.ref t)), (p1.mono fun _ _ z => RgAt.up g1 z), (by show Paired _ _ (servedF b l.name); rw [ef]; exact pset (F := FtAt K _) (x := .ref t) (y := .served b.tk (b.pl l.name)) ⟨t, rfl, t_of upd_same⟩ (p2.mono fun _ _ z => FtAt.up g1 z) k), spI⟩
abbrev N_Board_act : List Str := ["self", "word", "what"]
theorem sc_Board_act : FnScope N_Board_act ["self", "word", "what"] (C8.fnScope s_Board_act) := C8.fnScope_by (by decide +kernel)
theorem ok_Board_act {fd : FuncData} (T : Txt K mg) (F : FunD K "act" "Board.act" (C8.fnArgs s_Board_act) (C8.fnBody s_Board_act) (C8.fnScope s_Board_act) [] [] (He.ma K (aC "Board" K) "act") fd) (c_ring : C8.Met P w K mg base 6 (aC "HouseBoard" K) "ring" (sp_HouseBoard_ring K) []) (c_quiet : C8.Met P w K mg base 7 (aC "HouseBoard" K) "quiet" (sp_HouseBoard_quiet K) []) (c_mask : C8.Met P w K mg base 3 (aC "HouseBoard" K) "mask" (sp_Board_mask K) []) (c_unmask : C8.Met P w K mg base 3 (aC "HouseBoard" K) "unmask" (sp_Board_unmask K) []) (c_set_flag : C8.Met P w K mg base 3 (aC "HouseBoard" K) "set_flag" (sp_Board_set_flag K) []) (c_clear_flag : C8.Met P w K mg base 3 (aC "HouseBoard" K) "clear_flag" (sp_Board_clear_flag K) []) :
    C8.Met P w K mg base 12 (aC "HouseBoard" K) "act" (sp_Board_act K) [] := by
  refine C8.met0 T.cl_HouseBoard T.h_act (fun_c8 F) (F.bindsN fun _ _ _ _ _ _ us hl => match us, hl with | [_, _, _], _ => rfl) sc_Board_act (fun vs H Q E h => ?_) (fun cdv A outer s H vs Q E hr h => ?_)
  · obtain ⟨_, _, _, _, _, _, rfl, _⟩ := h
    rfl
  · have nd := sc_Board_act.nd
    have hu := hu_of hr
    obtain ⟨A, S, st, K0, b, M, rfl, ow, ok, on, hn, q⟩ := h
    refine ⟨_, (pss_one (ps_if (pt_cmpR op_eq (pv 1) pe_str (nomark _)) (pss_one (ps_expr (C8.pe_mt c_ring hr (by decide) (pv 0) (pa_cons (pv 2) pa_nil)))) (pss_one (ps_if (pt_cmpR op_eq (pv 1) pe_str (nomark _)) (pss_one (ps_expr (C8.pe_mt c_quiet hr (by decide) (pv 0) (pa_cons (pv 2) pa_nil)))) (pss_one (ps_if (pt_cmpR op_eq (pv 1) pe_str (nomark _)) (pss_one (ps_expr (C8.pe_mt c_mask hr (by decide) (pv 0) (pa_cons (pv 2) pa_nil)))) (pss_one (ps_if (pt_cmpR op_eq (pv 1) pe_str (nomark _)) (pss_one (ps_expr (C8.pe_mt c_unmask hr (by decide) (pv 0) (pa_cons (pv 2) pa_nil)))) (pss_one (ps_if (pt_cmpR op_eq (pv 1) pe_str (nomark _)) (pss_one (ps_expr (C8.pe_mt c_set_flag hr (by decide) (pv 0) (pa_cons (pv 2) pa_nil)))) (pss_one (ps_if (pt_cmpR op_eq (pv 1) pe_str (nomark _)) (pss_one (ps_expr (C8.pe_mt c_clear_flag hr (by decide) (pv 0) (pa_cons (pv 2) pa_nil)))) pss_nil)))))))))))), ?_⟩
    have h1 := ow.obj
    cases st with
    | ring n =>
      obtain ⟨l, hl, rfl⟩ := ok
      exact ⟨_, rfl, rfl, true, rfl, iteT ⟨_, rfl, A.bo, A.db, _, rfl, h1, rfl, _, rfl, A, S, l, K0, b, M, rfl, ow, hl, hn, q⟩⟩
    | quiet n =>
      obtain ⟨l, hl, rfl, hv⟩ := ok
      exact ⟨_, rfl, rfl, false, rfl, iteF ⟨_, rfl, rfl, true, rfl, iteT ⟨_, rfl, A.bo, A.db, _, rfl, h1, rfl, _, rfl, A, S, l, K0, b, M, rfl, ow, hl, hv, fun H1 o1 => q K0 H1 (Same.refl _) o1⟩⟩⟩
    | mask n =>
      obtain ⟨l, hl, rfl⟩ := ok
      exact ⟨_, rfl, rfl, false, rfl, iteF ⟨_, rfl, rfl, false, rfl, iteF ⟨_, rfl, rfl, true, rfl, iteT ⟨_, rfl, A.bo, A.db, _, rfl, h1, rfl, _, rfl, A, S, l, K0, b, M, rfl, ow, hl, fun H1 o1 => q K0 H1 (Same.refl _) o1⟩⟩⟩⟩
    | unmask n =>
      obtain ⟨l, hl, rfl⟩ := ok
      exact ⟨_, rfl, rfl, false, rfl, iteF ⟨_, rfl, rfl, false, rfl, iteF ⟨_, rfl, rfl, false, rfl, iteF ⟨_, rfl, rfl, true, rfl, iteT ⟨_, rfl, A.bo, A.db, _, rfl, h1, rfl, _, rfl, A, S, l, K0, b, M, rfl, ow, hl, fun H1 o1 => q K0 H1 (Same.refl _) o1⟩⟩⟩⟩⟩
    | setf f => exact ⟨_, rfl, rfl, false, rfl, iteF ⟨_, rfl, rfl, false, rfl, iteF ⟨_, rfl, rfl, false, rfl, iteF ⟨_, rfl, rfl, false, rfl, iteF ⟨_, rfl, rfl, true, rfl, iteT ⟨_, rfl, A.bo, A.db, _, rfl, h1, rfl, _, rfl, A, S, f, K0, b, M, rfl, ow, ok, fun H1 o1 => q K0 H1 (Same.refl _) o1⟩⟩⟩⟩⟩⟩
    | clearf f => exact ⟨_, rfl, rfl, false, rfl, iteF ⟨_, rfl, rfl, false, rfl, iteF ⟨_, rfl, rfl, false, rfl, iteF ⟨_, rfl, rfl, false, rfl, iteF ⟨_, rfl, rfl, false, rfl, iteF ⟨_, rfl, rfl, true, rfl, iteT ⟨_, rfl, A.bo, A.db, _, rfl, h1, rfl, _, rfl, A, S, f, K0, b, M, rfl, ow, ok, fun H1 o1 => q K0 H1 (Same.refl _) o1⟩⟩⟩⟩⟩⟩⟩
    | run n => cases on
    | await n => exact ⟨_, rfl, rfl, false, rfl, iteF ⟨_, rfl, rfl, false, rfl, iteF ⟨_, rfl, rfl, false, rfl, iteF ⟨_, rfl, rfl, false, rfl, iteF ⟨_, rfl, rfl, false, rfl, iteF ⟨_, rfl, rfl, false, rfl, iteF (q K0 H (Same.refl _) ow)⟩⟩⟩⟩⟩⟩
    | bar n => cases on
    | later n => cases on
end
end Cb

namespace Cb
open PySem PySem.Spec PyProof.Rows L2
def no0 : Str → Int := fun _ => 0
def enaL (b : BdD) (l : LineD) : Bool := !b.dis l.name
def freeL (b : BdD) (l : LineD) : Bool := !b.und l.name
def nmsV (ls : List LineD) : List V := ls.map fun l => .str l.name
theorem nmsV_snoc {ls : List LineD} {l : LineD} : nmsV (ls ++ [l]) = nmsV ls ++ [.str l.name] := by simp [nmsV]
theorem lineOf_eq {S : SetD} (ok : SetOk S) {l : LineD} (h : l ∈ S.ls) : lineOf S l.name = l := by
  unfold lineOf
  cases e : S.ls.find? fun x => decide (x.name = l.name) with
  | none =>
    have := List.find?_eq_none.mp e l h
    simp at this
  | some x =>
    have h1 := List.mem_of_find?_eq_some e
    have h2 : x.name = l.name := of_decide_eq_true (List.find?_some (p := fun x : LineD => decide (x.name = l.name)) e)
    exact nm_inj ok.ok.nd h1 h h2
theorem lineOf_nm {S : SetD} (ok : SetOk S) {n : Str} (h : n ∈ S.order) : lineOf S n ∈ S.ls ∧ (lineOf S n).name = n := by
  obtain ⟨l, hl, rfl⟩ := ok.line h
  rw [lineOf_eq ok hl]
  exact ⟨hl, rfl⟩
theorem linesO_mem {S : SetD} (ok : SetOk S) {l : LineD} (h : l ∈ linesO S) : l ∈ S.ls := by
  obtain ⟨n, hn, rfl⟩ := List.mem_map.mp h
  exact (lineOf_nm ok hn).1
theorem order_nms {S : SetD} (ok : SetOk S) : S.order.map V.str = nmsV (linesO S) := by
  unfold nmsV linesO
  rw [List.map_map]
  exact List.map_congr_left fun n hn => by show V.str n = V.str (lineOf S n).name; rw [(lineOf_nm ok hn).2]
theorem linesO_len {S : SetD} (ok : SetOk S) : (linesO S).length ≤ 12 := by
  unfold linesO
  rw [List.length_map]
  exact ok.len
def listSp (f : BdD → LineD → Bool) (K : PySem.W.Frag) : Sp := fun vs H Q _ => ∃ (A : AdB) (S : SetD) (K0 : Hp) (b : BdD) (M : List (Addr × HO)), vs = [.ref A.bo] ∧ OwnB K A S K0 H b M ∧
  ∀ p H', Same H H' → H p = none → H' p = some (.lst (nmsV ((linesO S).filter (f b)))) → Q (.ref p) H'
def disL (b : BdD) (l : LineD) : Bool := b.dis l.name
def highL (b : BdD) (l : LineD) : Bool := b.rung l.name && l.lvl
def sp_Board_waiting_lines (K : PySem.W.Frag) : Sp := listSp waitsB K
def sp_Board_ready_lines (K : PySem.W.Frag) : Sp := listSp readyB K
def sp_Board_disabled_lines (K : PySem.W.Frag) : Sp := listSp disL K
def sp_Board_high_lines (K : PySem.W.Frag) : Sp := listSp highL K
def upF (b : BdD) : List Int := ((List.range 8).filter fun i => b.fl.getD i false).map fun i : Nat => (i : Int)
def sp_Board_raised_flags (K : PySem.W.Frag) : Sp := fun vs H Q _ => ∃ (A : AdB) (S : SetD) (K0 : Hp) (b : BdD) (M : List (Addr × HO)), vs = [.ref A.bo] ∧ OwnB K A S K0 H b M ∧
  ∀ p H', Same H H' → H p = none → H' p = some (.lst ((upF b).map V.int)) → Q (.ref p) H'

section
variable {K : PySem.W.Frag} {A : AdB} {S : SetD} {K0 H : Hp} {b : BdD} {M : List (Addr × HO)}
theorem OwnB.c_r (h : OwnB K A S K0 H b M) : H A.r = some (.dK (bd S.order b.rung)) := by
  obtain ⟨rv, fv, p1, p2, sp⟩ := h.ex
  exact sp.at_ (by simp [layB])
theorem OwnB.c_d (h : OwnB K A S K0 H b M) : H A.d = some (.dK (bd S.order b.dis)) := by
  obtain ⟨rv, fv, p1, p2, sp⟩ := h.ex
  exact sp.at_ (by simp [layB])
theorem OwnB.c_u (h : OwnB K A S K0 H b M) : H A.u = some (.dK (bd S.order b.und)) := by
  obtain ⟨rv, fv, p1, p2, sp⟩ := h.ex
  exact sp.at_ (by simp [layB])
theorem OwnB.c_fl (h : OwnB K A S K0 H b M) : H A.fl = some (.lst (b.fl.map V.bl)) := by
  obtain ⟨rv, fv, p1, p2, sp⟩ := h.ex
  exact sp.at_ (by simp [layB])
theorem OwnB.c_pl (h : OwnB K A S K0 H b M) : H A.pl = some (.dK (od S.order b.pl)) := by
  obtain ⟨rv, fv, p1, p2, sp⟩ := h.ex
  exact sp.at_ (by simp [layB])
theorem OwnB.c_ow (h : OwnB K A S K0 H b M) : H A.ow = some (.dK (od S.order b.ow)) := by
  obtain ⟨rv, fv, p1, p2, sp⟩ := h.ex
  exact sp.at_ (by simp [layB])
theorem OwnB.c_nu (h : OwnB K A S K0 H b M) : H A.nu = some (.dK (onn S.order b.nu)) := by
  obtain ⟨rv, fv, p1, p2, sp⟩ := h.ex
  exact sp.at_ (by simp [layB])
theorem OwnB.fr {a : Addr} {x : HO} (h : OwnB K A S K0 H b ((a, x) :: M)) : H a = some x := by
  obtain ⟨rv, fv, p1, p2, sp⟩ := h.ex
  exact sp.at_ (by simp [layB])
theorem OwnB.ownM' {H' : Hp} {a : Addr} {x : HO} (h : OwnB K A S K0 H b M) (g : Same H H') (e : H a = none) (e' : H' a = some x) : OwnB K A S K0 H' b ((a, x) :: M) := by
  obtain ⟨L, sp, bk⟩ := h.lens
  exact bk K0 H' _ (Same.refl _) (sp.own' g e e')
theorem OwnB.keepM {a : Addr} {x : HO} (h : OwnB K A S K0 H b M) (e : H a = none) : OwnB K A S (upd K0 a x) (upd H a x) b M ∧ Same K0 (upd K0 a x) := by
  obtain ⟨L, sp, bk⟩ := h.lens
  exact ⟨bk _ _ _ (sp.newk e) (sp.keep e), sp.newk e⟩
theorem OwnB.freezeM {a : Addr} {x : HO} (h : OwnB K A S K0 H b ((a, x) :: M)) : OwnB K A S (upd K0 a x) H b M ∧ Same K0 (upd K0 a x) := by
  obtain ⟨L, sp, bk⟩ := h.lens
  have sp : Sep K0 H ((a, x) :: (M ++ L)) := sp
  exact ⟨bk _ _ _ sp.new0 sp.freeze, sp.new0⟩
theorem OwnB.putM {a : Addr} {x y : HO} (h : OwnB K A S K0 H b ((a, x) :: M)) : OwnB K A S K0 (upd H a y) b ((a, y) :: M) := by
  obtain ⟨L, sp, bk⟩ := h.lens
  have sp : Sep K0 H ((a, x) :: (M ++ L)) := sp
  exact bk _ _ _ (Same.refl _) sp.put0
theorem OwnB.permM {M' : List (Addr × HO)} (h : OwnB K A S K0 H b M) (q : M'.Perm M) : OwnB K A S K0 H b M' := by
  obtain ⟨L, sp, bk⟩ := h.lens
  exact bk _ _ _ (Same.refl _) (sp.perm (q.append_right L))
end
def onL (b : BdD) (p : Int) (l : LineD) : Bool := decide (optV (b.pl l.name) = .int p)
def ownL (b : BdD) (p : Int) (l : LineD) : Bool := decide (optV (b.ow l.name) = .int p)
def nopL (b : BdD) (l : LineD) : Bool := decide (optV (b.pl l.name) = .non)
def listP (f : BdD → Int → LineD → Bool) (K : PySem.W.Frag) : Sp := fun vs H Q _ => ∃ (A : AdB) (S : SetD) (K0 : Hp) (b : BdD) (M : List (Addr × HO)) (p : Int), vs = [.ref A.bo, .int p] ∧ OwnB K A S K0 H b M ∧
  ∀ a H', Same H H' → H a = none → H' a = some (.lst (nmsV ((linesO S).filter (f b p)))) → Q (.ref a) H'
def sp_HouseBoard_lines_on (K : PySem.W.Frag) : Sp := listP onL K
def readyP (b : BdD) (p : Int) (l : LineD) : Bool := onL b p l && enaL b l
def sp_HouseBoard_ready_on (K : PySem.W.Frag) : Sp := listP readyP K
def freeP (b : BdD) (l : LineD) : Bool := readyB b l && nopL b l
def sp_HouseBoard_unplaced_lines (K : PySem.W.Frag) : Sp := listSp freeP K
def loadB (S : SetD) (b : BdD) (p : Int) : Nat := ((linesO S).filter (onL b p)).length + ((linesO S).filter (ownL b p)).length
def sp_HouseBoard_load_of (K : PySem.W.Frag) : Sp := fun vs H Q _ => ∃ (A : AdB) (S : SetD) (K0 : Hp) (b : BdD) (M : List (Addr × HO)) (p : Int), vs = [.ref A.bo, .int p] ∧ OwnB K A S K0 H b M ∧ ∀ H', Same H H' → Q (.int (loadB S b p : Nat)) H'
def sp_HouseBoard_tick_number (K : PySem.W.Frag) : Sp := fun vs H Q _ => ∃ (A : AdB) (S : SetD) (K0 : Hp) (b : BdD) (M : List (Addr × HO)), vs = [.ref A.bo] ∧ OwnB K A S K0 H b M ∧ Q (.int b.tk) H
def sp_HouseBoard_place_of (K : PySem.W.Frag) : Sp := fun vs H Q _ => ∃ (A : AdB) (S : SetD) (l : LineD) (K0 : Hp) (b : BdD) (M : List (Addr × HO)), vs = [.ref A.bo, .str l.name] ∧ OwnB K A S K0 H b M ∧ l ∈ S.ls ∧ Q (optV (b.pl l.name)) H
def sp_HouseBoard_owner_of (K : PySem.W.Frag) : Sp := fun vs H Q _ => ∃ (A : AdB) (S : SetD) (l : LineD) (K0 : Hp) (b : BdD) (M : List (Addr × HO)), vs = [.ref A.bo, .str l.name] ∧ OwnB K A S K0 H b M ∧ l ∈ S.ls ∧ Q (optV (b.ow l.name)) H
def sp_HouseBoard_ring_number (K : PySem.W.Frag) : Sp := fun vs H Q _ => ∃ (A : AdB) (S : SetD) (l : LineD) (K0 : Hp) (b : BdD) (M : List (Addr × HO)), vs = [.ref A.bo, .str l.name] ∧ OwnB K A S K0 H b M ∧ l ∈ S.ls ∧ Q (optN (b.nu l.name)) H
def putB (b : BdD) (n : Str) (p : Option Int) : BdD := { b with pl := oset b.pl n p }
def tickB (b : BdD) : BdD := { b with tk := b.tk + 1 }
theorem BdOk.put {S : SetD} {b : BdD} (h : BdOk S b) (n : Str) (p : Option Int) : BdOk S (putB b n p) := ⟨h.lv, h.fl, h.nk.len, h.nk.lt⟩
theorem BdOk.tick {S : SetD} {b : BdD} (h : BdOk S b) : BdOk S (tickB b) := ⟨h.lv, h.fl, h.nk.len, h.nk.lt⟩
def sp_HouseBoard_put_on (K : PySem.W.Frag) : Sp := fun vs H Q _ => ∃ (A : AdB) (S : SetD) (l : LineD) (p : Int) (K0 : Hp) (b : BdD) (M : List (Addr × HO)), vs = [.ref A.bo, .str l.name, .int p] ∧ OwnB K A S K0 H b M ∧ l ∈ S.ls ∧ ∀ H', OwnB K A S K0 H' (putB b l.name (some p)) M → Q .non H'
def sp_HouseBoard_pass_tick (K : PySem.W.Frag) : Sp := fun vs H Q _ => ∃ (A : AdB) (S : SetD) (K0 : Hp) (b : BdD) (M : List (Addr × HO)), vs = [.ref A.bo] ∧ OwnB K A S K0 H b M ∧ ∀ H', OwnB K A S K0 H' (tickB b) M → Q .non H'
def offB (b : BdD) (ls : List LineD) : BdD := ls.foldl (fun b l => putB b l.name none) b
theorem offB_snoc {b : BdD} {ls : List LineD} {l : LineD} : offB b (ls ++ [l]) = putB (offB b ls) l.name none := by
  unfold offB
  rw [List.foldl_append]
  rfl
def sp_HouseBoard_take_off (K : PySem.W.Frag) : Sp := fun vs H Q _ => ∃ (A : AdB) (S : SetD) (K0 : Hp) (b : BdD) (M : List (Addr × HO)) (p : Int), vs = [.ref A.bo, .int p] ∧ OwnB K A S K0 H b M ∧
  ∀ a H', OwnB K A S K0 H' (offB b ((linesO S).filter (onL b p))) ((a, .lst (nmsV ((linesO S).filter (onL b p)))) :: M) → Q (.ref a) H'
def sp_HouseBoard_ring_rows (K : PySem.W.Frag) : Sp := fun vs H Q _ => ∃ (A : AdB) (S : SetD) (K0 : Hp) (b : BdD) (M : List (Addr × HO)), vs = [.ref A.bo] ∧ OwnB K A S K0 H b M ∧ b.rg.length < 16000000 ∧
  ∀ a H' rv, Same H H' → H a = none → H' a = some (.lst rv) → Paired (RgAt K K0) rv b.rg → Q (.ref a) H'
/-- what is told of a ring: its fate, or where its line is placed -/
def ftT (b : BdD) (n : Nat) : FtD → FtD
  | .wait => .wait
  | f => f
def FtT (K : PySem.W.Frag) (H : Hp) (b : BdD) (n : Nat) (v : V) : FtD → Prop
  | .wait => ∃ t r, v = .ref t ∧ b.rg[n]? = some r ∧ SqT K H t [.str "waits", optV (b.pl r.2)]
  | .merged k => ∃ t, v = .ref t ∧ SqT K H t [.str "merged", optN k]
  | .served i p => ∃ t, v = .ref t ∧ SqT K H t [.str "served", .int i, optV p]
def sp_HouseBoard_ring_fate (K : PySem.W.Frag) : Sp := fun vs H Q _ => ∃ (A : AdB) (S : SetD) (K0 : Hp) (b : BdD) (M : List (Addr × HO)) (n : Nat), vs = [.ref A.bo, .int (n : Nat)] ∧ OwnB K A S K0 H b M ∧ n < b.fa.length ∧ (∀ r ∈ b.rg, r.2 ∈ S.order) ∧
  ∀ K1 H' v, Same K0 K1 → OwnB K A S K1 H' b M → FtT K K1 b n v (b.fa.getD n .wait) → Q v H'
theorem scal_opt (x : Option Int) (p : Int) : scal (optV x) (.int p) = true := by cases x <;> rfl

section
variable {P : Program} {w : World} {K : PySem.W.Frag} {mg : Str → Option Value} {base : Heap}

abbrev N_Board_waiting_lines : List Str := ["self", "line"]
theorem sc_Board_waiting_lines : FnScope N_Board_waiting_lines ["self"] (C8.fnScope s_Board_waiting_lines) := C8.fnScope_by (by decide +kernel)
theorem ok_Board_waiting_lines {fd : FuncData} (T : Txt K mg) (F : FunD K "waiting_lines" "Board.waiting_lines" (C8.fnArgs s_Board_waiting_lines) (C8.fnBody s_Board_waiting_lines) (C8.fnScope s_Board_waiting_lines) [] [] (He.ma K (aC "Board" K) "waiting_lines") fd) (c_order : FnP P w K mg base 1 (prA "Setup" "order" K) (sp_Setup_order K)) (c_waits : C8.Met P w K mg base 5 (aC "HouseBoard" K) "waits" (sp_Board_waits K) []) :
    C8.Met P w K mg base 6 (aC "HouseBoard" K) "waiting_lines" (sp_Board_waiting_lines K) [] := by
  refine C8.met0 T.cl_HouseBoard T.h_waiting_lines (fun_c8 F) (F.bindsN fun _ _ _ _ _ _ us hl => match us, hl with | [_], _ => rfl) sc_Board_waiting_lines (fun vs H Q E h => ?_) (fun cdv A outer s H vs Q E hr h => ?_)
  · obtain ⟨_, _, _, _, _, rfl, _⟩ := h
    rfl
  · have nd := sc_Board_waiting_lines.nd
    have hu := hu_of hr
    obtain ⟨A, S, K0, b, M, rfl, ow, q⟩ := h
    obtain ⟨p, hpo⟩ := T.p_Setup_order
    refine ⟨_, (pss_one (ps_ret (pe_lc (own := [("line", 1)]) rfl nd (pi_tup (C_prop hpo T.cl_Setup c_order hr (by decide) (pe_fld (pv 0) rfl))) (blkOk_by (own := [("line", 1)]) (N := N_Board_waiting_lines) (sc := (C8.fnScope s_Board_waiting_lines)) (by decide +kernel)) (fun _ _ _ _ _ => (pg_name (i := 1) nd rfl (Or.inl rfl))) (fun _ _ _ _ _ => (pts_one (pt_val (C8.pe_mt c_waits hr (by decide) (pv 0) (pa_cons (pv 1) pa_nil))))) (fun _ _ _ _ _ => (pv 1))))), ?_⟩
    have B := ow.at_
    have h1 := ow.obj
    obtain ⟨dx2, _, _, _, _, _, h3, _⟩ := B.su.ex
    refine ⟨_, rfl, _, _, _, _, _, rfl, h1, T.cl_HouseBoard, T.t_HouseBoard_setup, rfl, A.su, dx2, _, rfl, h3, A.su, S, H, rfl, B.su, Same.refl H, fun oa hoa => ?_⟩
    rw [order_nms B.ok] at hoa
    refine ⟨_, rfl, ⟨_, t_of hoa⟩, fun D hD => ?_⟩
    refine lc_it (walk_tup (xs := nmsV (linesO S))) (fun i H' => Sep H H' ((D, .lst (nmsV (((linesO S).take i).filter (waitsB b)))) :: [])) ((Sep.nil (H := H)).own hD) ?_ ?_ ?_
    · rintro i H' _ sp'
      exact t_of (sp'.ext _ _ hoa)
    · rintro i v H3 H4 hi sp' ⟨rfl, e2⟩
      unfold nmsV at e2
      rw [List.getElem?_map] at e2
      obtain ⟨l, hlo, rfl⟩ := Option.map_eq_some_iff.mp e2
      have hl : l ∈ S.ls := linesO_mem B.ok (List.mem_of_getElem? hlo)
      have ow' := ow.grow sp'.ext
      have h1' := ow'.obj
      have hm := ow'.ok.mem hl
      refine ⟨rfl, _, rfl, A.bo, A.db, _, rfl, h1', rfl, _, rfl, A, S, l, K0, b, M, rfl, ow', hl, _, rfl, ?_⟩
      rw [filter_snoc (waitsB b) hlo]
      cases e : waitsB b l with
      | true =>
        refine iteT ⟨_, rfl, _, sp'.c0, ?_, ?_⟩
        · have z1 := List.length_filter_le (waitsB b) ((linesO S).take i)
          have z2 : (linesO S).length ≤ 12 := linesO_len B.ok
          exact sml (m := 12) (by unfold nmsV; simp at z1 ⊢; omega) (by decide)
        · rw [if_pos rfl, nmsV_snoc]
          exact sp'.put0
      | false =>
        refine iteF ?_
        rw [if_neg (by simp), List.append_nil]
        exact sp'
    · rintro H1 sp'
      rw [List.take_of_length_le (by unfold nmsV; simp)] at sp'
      exact q D H1 sp'.ext hD sp'.c0
abbrev N_Board_ready_lines : List Str := ["self", "enabled", "line"]
theorem sc_Board_ready_lines : FnScope N_Board_ready_lines ["self"] (C8.fnScope s_Board_ready_lines) := C8.fnScope_by (by decide +kernel)
theorem ok_Board_ready_lines {fd : FuncData} (T : Txt K mg) (F : FunD K "ready_lines" "Board.ready_lines" (C8.fnArgs s_Board_ready_lines) (C8.fnBody s_Board_ready_lines) (C8.fnScope s_Board_ready_lines) [] [] (He.ma K (aC "Board" K) "ready_lines") fd) (c_waiting_lines : C8.Met P w K mg base 6 (aC "HouseBoard" K) "waiting_lines" (sp_Board_waiting_lines K) []) (c_is_enabled : C8.Met P w K mg base 1 (aC "HouseBoard" K) "is_enabled" (sp_Board_is_enabled K) []) :
    C8.Met P w K mg base 7 (aC "HouseBoard" K) "ready_lines" (sp_Board_ready_lines K) [] := by
  refine C8.met0 T.cl_HouseBoard T.h_ready_lines (fun_c8 F) (F.bindsN fun _ _ _ _ _ _ us hl => match us, hl with | [_], _ => rfl) sc_Board_ready_lines (fun vs H Q E h => ?_) (fun cdv A outer s H vs Q E hr h => ?_)
  · obtain ⟨_, _, _, _, _, rfl, _⟩ := h
    rfl
  · have nd := sc_Board_ready_lines.nd
    have hu := hu_of hr
    obtain ⟨A, S, K0, b, M, rfl, ow, q⟩ := h
    refine ⟨_, (pss_cons (ps_setLc (i := 1) (own := [("line", 2)]) rfl nd rfl rfl (sw_true rfl rfl rfl (by decide +kernel)) (pi_list (C8.pe_mt0 c_waiting_lines hr (by decide) (pv 0))) (blkOk_by (own := [("line", 2)]) (N := N_Board_ready_lines) (sc := (C8.fnScope s_Board_ready_lines)) (by decide +kernel)) (fun _ _ _ _ _ => (pg_name (i := 2) nd rfl (Or.inl rfl))) (fun _ _ _ _ _ => (pts_one (pt_val (C8.pe_mt c_is_enabled hr (by decide) (pv 0) (pa_cons (pv 2) pa_nil))))) (fun _ _ _ _ _ => (pv 2)))
      (pss_one (ps_ret (pe_lc (own := [("line", 2)]) rfl nd (pi_list (pv 1)) (blkOk_by (own := [("line", 2)]) (N := N_Board_ready_lines) (sc := (C8.fnScope s_Board_ready_lines)) (by decide +kernel)) (fun _ _ _ _ _ => (pg_name (i := 2) nd rfl (Or.inl rfl))) (fun _ _ _ _ _ => (pts_one (pt_not (pt_val (pe_dget hu (pe_fld (pv 0) rfl : PE _ _ (tFld K _ _)) (pv 2) (fun _ _ => rfl)))))) (fun _ _ _ _ _ => (pv 2)))))), ?_⟩
    have B := ow.at_
    have h1 := ow.obj
    refine ⟨_, rfl, A.bo, A.db, _, rfl, h1, rfl, A, S, K0, b, M, rfl, ow, fun p H1 g1 hp hp1 => ?_⟩
    generalize eW : (linesO S).filter (waitsB b) = WL at hp1
    have memW : ∀ l ∈ WL, l ∈ S.ls := fun l hl => linesO_mem B.ok (List.mem_filter.mp (eW ▸ hl)).1
    have lenW : WL.length ≤ 12 := by
      rw [← eW]
      exact Nat.le_trans (List.length_filter_le _ _) (linesO_len B.ok)
    have s1 : Sep H H1 [(p, .lst (nmsV WL))] := Sep.nil.own' g1 hp hp1
    refine ⟨_, rfl, ⟨_, l_of hp1⟩, fun D hD => ?_⟩
    refine lc_it (walk_list (xs := nmsV WL)) (fun i H' => Sep H H' ((D, .lst (nmsV ((WL.take i).filter (enaL b)))) :: [(p, .lst (nmsV WL))])) (s1.own hD) ?_ ?_ ?_
    · rintro i H' _ sp'
      exact l_of sp'.c1
    · rintro i v H3 H4 hi sp' ⟨rfl, e2⟩
      unfold nmsV at e2
      rw [List.getElem?_map] at e2
      obtain ⟨l, hlo, rfl⟩ := Option.map_eq_some_iff.mp e2
      have hl : l ∈ S.ls := memW l (List.mem_of_getElem? hlo)
      have ow' := ow.grow sp'.ext
      have h1' := ow'.obj
      have hm := ow'.ok.mem hl
      refine ⟨rfl, _, rfl, A.bo, A.db, _, rfl, h1', rfl, _, rfl, A, S, l, K0, b, M, rfl, ow', hl, _, rfl, ?_⟩
      rw [filter_snoc (enaL b) hlo]
      cases e : (!b.dis l.name) with
      | true =>
        refine iteT ⟨_, rfl, _, sp'.c0, ?_, ?_⟩
        · have z1 := List.length_filter_le (enaL b) (WL.take i)
          have z2 : WL.length ≤ 12 := lenW
          exact sml (m := 12) (by unfold nmsV; simp at z1 ⊢; omega) (by decide)
        · rw [if_pos (show enaL b l = true by unfold enaL; first | (rw [e]; done) | (rw [e]; rfl)), nmsV_snoc]
          exact sp'.put0
      | false =>
        refine iteF ?_
        rw [if_neg (show ¬ enaL b l = true by unfold enaL; rw [e]; simp), List.append_nil]
        exact sp'
    rintro H2 s2
    rw [List.take_of_length_le (by unfold nmsV; simp)] at s2
    generalize eV : WL.filter (enaL b) = VL at s2
    have memV : ∀ l ∈ VL, l ∈ S.ls := fun l hl => memW l (List.mem_filter.mp (eV ▸ hl)).1
    have lenV : VL.length ≤ 12 := by
      rw [← eV]
      exact Nat.le_trans (List.length_filter_le _ _) lenW
    refine ⟨_, rfl, _, rfl, ⟨_, l_of s2.c0⟩, fun D2 hD2 => ?_⟩
    refine lc_it (walk_list (xs := nmsV VL)) (fun i H' => Sep H H' ((D2, .lst (nmsV ((VL.take i).filter (freeL b)))) :: [(D, .lst (nmsV VL)), (p, .lst (nmsV WL))])) (s2.own hD2) ?_ ?_ ?_
    · rintro i H' _ sp'
      exact l_of sp'.c1
    · rintro i v H3 H4 hi sp' ⟨rfl, e2⟩
      unfold nmsV at e2
      rw [List.getElem?_map] at e2
      obtain ⟨l, hlo, rfl⟩ := Option.map_eq_some_iff.mp e2
      have hl : l ∈ S.ls := memV l (List.mem_of_getElem? hlo)
      have ow' := ow.grow sp'.ext
      have h1' := ow'.obj
      have hm := ow'.ok.mem hl
      refine ⟨rfl, _, rfl, _, _, _, _, _, rfl, h1', T.cl_HouseBoard, T.t_HouseBoard_under_way, rfl, _, rfl, A.u, _, rfl, bd_at hm ▸ DGet.k (k := .inr l.name) ow'.c_u, _, rfl, ?_⟩
      rw [filter_snoc (freeL b) hlo]
      cases e : b.und l.name with
      | false =>
        refine iteT ⟨_, rfl, _, sp'.c0, ?_, ?_⟩
        · have z1 := List.length_filter_le (freeL b) (VL.take i)
          have z2 : VL.length ≤ 12 := lenV
          exact sml (m := 12) (by unfold nmsV; simp at z1 ⊢; omega) (by decide)
        · rw [if_pos (show freeL b l = true by unfold freeL; first | (rw [e]; done) | (rw [e]; rfl)), nmsV_snoc]
          exact sp'.put0
      | true =>
        refine iteF ?_
        rw [if_neg (show ¬ freeL b l = true by unfold freeL; rw [e]; simp), List.append_nil]
        exact sp'
    rintro H3 s3
    rw [List.take_of_length_le (by unfold nmsV; simp)] at s3
    refine q D2 H3 s3.ext (Same.free s2.ext hD2) ?_
    have z := s3.c0
    rw [← eV, ← eW, List.filter_filter, List.filter_filter] at z
    rw [show (linesO S).filter (readyB b) = (linesO S).filter (fun a => (freeL b a && enaL b a) && waitsB b a) from List.filter_congr fun l _ => by unfold readyB freeL enaL; cases waitsB b l <;> cases b.dis l.name <;> cases b.und l.name <;> rfl]
    exact z
abbrev N_Board_raised_flags : List Str := ["self", "flag", "is_up"]
theorem sc_Board_raised_flags : FnScope N_Board_raised_flags ["self"] (C8.fnScope s_Board_raised_flags) := C8.fnScope_by (by decide +kernel)
theorem ok_Board_raised_flags {fd : FuncData} (T : Txt K mg) (F : FunD K "raised_flags" "Board.raised_flags" (C8.fnArgs s_Board_raised_flags) (C8.fnBody s_Board_raised_flags) (C8.fnScope s_Board_raised_flags) [] [] (He.ma K (aC "Board" K) "raised_flags") fd) :
    C8.Met P w K mg base 1 (aC "HouseBoard" K) "raised_flags" (sp_Board_raised_flags K) [] := by
  refine C8.met0 T.cl_HouseBoard T.h_raised_flags (fun_c8 F) (F.bindsN fun _ _ _ _ _ _ us hl => match us, hl with | [_], _ => rfl) sc_Board_raised_flags (fun vs H Q E h => ?_) (fun cdv A outer s H vs Q E hr h => ?_)
  · obtain ⟨_, _, _, _, _, rfl, _⟩ := h
    rfl
  · have nd := sc_Board_raised_flags.nd
    have hu := hu_of hr
    obtain ⟨A, S, K0, b, M, rfl, ow, q⟩ := h
    refine ⟨_, (pss_one (ps_ret (pe_lc (own := [("flag", 1), ("is_up", 2)]) rfl nd (pi_enum (by rfl) T.n_enumerate (pa_cons (pe_fld (pv 0) rfl) pa_nil)) (blkOk_by (own := [("flag", 1), ("is_up", 2)]) (N := N_Board_raised_flags) (sc := (C8.fnScope s_Board_raised_flags)) (by decide +kernel)) (fun _ _ _ _ _ => (pg_tup (n := 2) rfl (pgs_cons (pg_name (i := 1) nd rfl (Or.inl rfl)) (pgs_cons (pg_name (i := 2) nd rfl (Or.inl rfl)) pgs_nil)) : PG _ _ (gTup K 2 _))) (fun _ _ _ _ _ => (pts_one (pt_val (pv 2)))) (fun _ _ _ _ _ => (pv 1))))), ?_⟩
    have B := ow.at_
    have h1 := ow.obj
    have hfl := ow.bk.fl
    have hF := ow.c_fl
    refine ⟨_, rfl, _, _, _, _, _, rfl, h1, T.cl_HouseBoard, T.t_HouseBoard_flags, rfl, _, _, rfl, l_of hF, fun D hD => ?_⟩
    refine lc_it (walk_enum (xs := b.fl.map V.bl)) (fun i H' => Sep H H' [(D, .lst ((((List.range i).filter fun j => b.fl.getD j false).map fun j : Nat => (j : Int)).map V.int))]) (Sep.nil.own hD) ?_ ?_ ?_
    · rintro i H' _ sp'
      exact l_of (sp'.ext _ _ hF)
    · rintro i x H2 H3 hi sp' ⟨t, u, v, rfl, ht, rfl, e1, e2⟩
      obtain rfl := Option.some.inj e1
      have e2 : (b.fl.map V.bl)[i]? = some v := e2
      rw [List.getElem?_map] at e2
      obtain ⟨c, hc, rfl⟩ := Option.map_eq_some_iff.mp e2
      have sp1 := sp'.drop (o := .tup [.int (i : Nat), .bl c]) ht
      have hcd : b.fl.getD i false = c := by rw [List.getD_eq_getElem?_getD, hc]; rfl
      refine ⟨_, _, rfl, t_of upd_same, rfl, _, _, rfl, _, _, rfl, rfl, rfl, _, rfl, _, rfl, ?_⟩
      rw [List.range_succ, List.filter_append]
      cases c with
      | true =>
        refine iteT ⟨_, rfl, _, sp1.c0, ?_, ?_⟩
        · rw [List.length_map, List.length_map]
          have z1 := List.length_filter_le (fun j => b.fl.getD j false) (List.range i)
          rw [List.length_range] at z1
          rw [List.length_map] at hi
          exact sml (m := 12) (by omega) (by decide)
        · rw [show [i].filter (fun j => b.fl.getD j false) = [i] by simp only [List.filter_cons, List.filter_nil, hcd, if_true], List.map_append, List.map_append]
          exact sp1.put0
      | false =>
        refine iteF ?_
        rw [show [i].filter (fun j => b.fl.getD j false) = [] by simp only [List.filter_cons, List.filter_nil, hcd]; rfl, List.append_nil]
        exact sp1
    · rintro H1 sp'
      rw [List.length_map, hfl] at sp'
      exact q D H1 sp'.ext hD sp'.c0
abbrev N_HouseBoard_lines_on : List Str := ["self", "processor", "line"]
theorem sc_HouseBoard_lines_on : FnScope N_HouseBoard_lines_on ["self", "processor"] (C8.fnScope s_HouseBoard_lines_on) := C8.fnScope_by (by decide +kernel)
theorem ok_HouseBoard_lines_on {fd : FuncData} (T : Txt K mg) (F : FunD K "lines_on" "HouseBoard.lines_on" (C8.fnArgs s_HouseBoard_lines_on) (C8.fnBody s_HouseBoard_lines_on) (C8.fnScope s_HouseBoard_lines_on) [] [] (He.ma K (aC "HouseBoard" K) "lines_on") fd) (c_order : FnP P w K mg base 1 (prA "Setup" "order" K) (sp_Setup_order K)) :
    C8.Met P w K mg base 3 (aC "HouseBoard" K) "lines_on" (sp_HouseBoard_lines_on K) [] := by
  refine C8.met0 T.cl_HouseBoard T.m_HouseBoard_lines_on (fun_c8 F) (F.bindsN fun _ _ _ _ _ _ us hl => match us, hl with | [_, _], _ => rfl) sc_HouseBoard_lines_on (fun vs H Q E h => ?_) (fun cdv A outer s H vs Q E hr h => ?_)
  · obtain ⟨_, _, _, _, _, _, rfl, _⟩ := h
    rfl
  · have nd := sc_HouseBoard_lines_on.nd
    have hu := hu_of hr
    obtain ⟨A, S, K0, b, M, p, rfl, ow, q⟩ := h
    obtain ⟨pp, hpo⟩ := T.p_Setup_order
    refine ⟨_, (pss_one (ps_ret (pe_lc (own := [("line", 2)]) rfl nd (pi_tup (C_prop hpo T.cl_Setup c_order hr (by decide) (pe_fld (pv 0) rfl))) (blkOk_by (own := [("line", 2)]) (N := N_HouseBoard_lines_on) (sc := (C8.fnScope s_HouseBoard_lines_on)) (by decide +kernel)) (fun _ _ _ _ _ => (pg_name (i := 2) nd rfl (Or.inl rfl))) (fun _ _ _ _ _ => (pts_one (pt_cmpR op_eq (pe_dget hu (pe_fld (pv 0) rfl : PE _ _ (tFld K _ _)) (pv 2) (fun _ _ => rfl)) (pv 1) (nomark _)))) (fun _ _ _ _ _ => (pv 2))))), ?_⟩
    have B := ow.at_
    have h1 := ow.obj
    obtain ⟨dx2, _, _, _, _, _, h3, _⟩ := B.su.ex
    refine ⟨_, rfl, _, _, _, _, _, rfl, h1, T.cl_HouseBoard, T.t_HouseBoard_setup, rfl, A.su, dx2, _, rfl, h3, A.su, S, H, rfl, B.su, Same.refl H, fun oa hoa => ?_⟩
    rw [order_nms B.ok] at hoa
    refine ⟨_, rfl, ⟨_, t_of hoa⟩, fun D hD => ?_⟩
    refine lc_it (walk_tup (xs := nmsV (linesO S))) (fun i H' => Sep H H' ((D, .lst (nmsV (((linesO S).take i).filter (onL b p)))) :: [])) ((Sep.nil (H := H)).own hD) ?_ ?_ ?_
    · rintro i H' _ sp'
      exact t_of (sp'.ext _ _ hoa)
    · rintro i v H3 H4 hi sp' ⟨rfl, e2⟩
      unfold nmsV at e2
      rw [List.getElem?_map] at e2
      obtain ⟨l, hlo, rfl⟩ := Option.map_eq_some_iff.mp e2
      have hl : l ∈ S.ls := linesO_mem B.ok (List.mem_of_getElem? hlo)
      have ow' := ow.grow sp'.ext
      have h1' := ow'.obj
      have hm := ow'.ok.mem hl
      refine ⟨rfl, _, rfl, _, _, _, _, _, rfl, h1', T.cl_HouseBoard, T.t_HouseBoard_places, rfl, _, rfl, A.pl, _, rfl, od_at hm ▸ DGet.k (k := .inr l.name) ow'.c_pl, _, rfl, scal_opt _ _, _, rfl, ?_⟩
      rw [filter_snoc (onL b p) hlo]
      cases e : decide (optV (b.pl l.name) = V.int p) with
      | true =>
        refine iteT ⟨_, rfl, _, sp'.c0, ?_, ?_⟩
        · have z1 := List.length_filter_le (onL b p) ((linesO S).take i)
          have z2 : (linesO S).length ≤ 12 := linesO_len B.ok
          exact sml (m := 12) (by unfold nmsV; simp at z1 ⊢; omega) (by decide)
        · rw [if_pos (show onL b p l = true by unfold onL; first | (rw [e]; done) | (rw [e]; rfl)), nmsV_snoc]
          exact sp'.put0
      | false =>
        refine iteF ?_
        rw [if_neg (show ¬ onL b p l = true by unfold onL; rw [e]; simp), List.append_nil]
        exact sp'
    · rintro H1 sp'
      rw [List.take_of_length_le (by unfold nmsV; simp)] at sp'
      exact q D H1 sp'.ext hD sp'.c0
abbrev N_HouseBoard_ready_on : List Str := ["self", "processor", "line"]
theorem sc_HouseBoard_ready_on : FnScope N_HouseBoard_ready_on ["self", "processor"] (C8.fnScope s_HouseBoard_ready_on) := C8.fnScope_by (by decide +kernel)
theorem ok_HouseBoard_ready_on {fd : FuncData} (T : Txt K mg) (F : FunD K "ready_on" "HouseBoard.ready_on" (C8.fnArgs s_HouseBoard_ready_on) (C8.fnBody s_HouseBoard_ready_on) (C8.fnScope s_HouseBoard_ready_on) [] [] (He.ma K (aC "HouseBoard" K) "ready_on") fd) (c_lines_on : C8.Met P w K mg base 3 (aC "HouseBoard" K) "lines_on" (sp_HouseBoard_lines_on K) []) (c_is_enabled : C8.Met P w K mg base 1 (aC "HouseBoard" K) "is_enabled" (sp_Board_is_enabled K) []) :
    C8.Met P w K mg base 4 (aC "HouseBoard" K) "ready_on" (sp_HouseBoard_ready_on K) [] := by
  refine C8.met0 T.cl_HouseBoard T.m_HouseBoard_ready_on (fun_c8 F) (F.bindsN fun _ _ _ _ _ _ us hl => match us, hl with | [_, _], _ => rfl) sc_HouseBoard_ready_on (fun vs H Q E h => ?_) (fun cdv A outer s H vs Q E hr h => ?_)
  · obtain ⟨_, _, _, _, _, _, rfl, _⟩ := h
    rfl
  · have nd := sc_HouseBoard_ready_on.nd
    have hu := hu_of hr
    obtain ⟨A, S, K0, b, M, p, rfl, ow, q⟩ := h
    refine ⟨_, (pss_one (ps_ret (pe_lc (own := [("line", 2)]) rfl nd (pi_list (C8.pe_mt c_lines_on hr (by decide) (pv 0) (pa_cons (pv 1) pa_nil))) (blkOk_by (own := [("line", 2)]) (N := N_HouseBoard_ready_on) (sc := (C8.fnScope s_HouseBoard_ready_on)) (by decide +kernel)) (fun _ _ _ _ _ => (pg_name (i := 2) nd rfl (Or.inl rfl))) (fun _ _ _ _ _ => (pts_one (pt_val (C8.pe_mt c_is_enabled hr (by decide) (pv 0) (pa_cons (pv 2) pa_nil))))) (fun _ _ _ _ _ => (pv 2))))), ?_⟩
    have B := ow.at_
    have h1 := ow.obj
    refine ⟨_, rfl, A.bo, A.db, _, rfl, h1, rfl, _, rfl, A, S, K0, b, M, p, rfl, ow, fun a H1 g1 hp hp1 => ?_⟩
    generalize eW : (linesO S).filter (onL b p) = WL at hp1
    have memW : ∀ l ∈ WL, l ∈ S.ls := fun l hl => linesO_mem B.ok (List.mem_filter.mp (eW ▸ hl)).1
    have lenW : WL.length ≤ 12 := by
      rw [← eW]
      exact Nat.le_trans (List.length_filter_le _ _) (linesO_len B.ok)
    have s1 : Sep H H1 [(a, .lst (nmsV WL))] := Sep.nil.own' g1 hp hp1
    refine ⟨_, rfl, ⟨_, l_of hp1⟩, fun D hD => ?_⟩
    refine lc_it (walk_list (xs := nmsV WL)) (fun i H' => Sep H H' ((D, .lst (nmsV ((WL.take i).filter (enaL b)))) :: [(a, .lst (nmsV WL))])) (s1.own hD) ?_ ?_ ?_
    · rintro i H' _ sp'
      exact l_of sp'.c1
    · rintro i v H3 H4 hi sp' ⟨rfl, e2⟩
      unfold nmsV at e2
      rw [List.getElem?_map] at e2
      obtain ⟨l, hlo, rfl⟩ := Option.map_eq_some_iff.mp e2
      have hl : l ∈ S.ls := memW l (List.mem_of_getElem? hlo)
      have ow' := ow.grow sp'.ext
      have h1' := ow'.obj
      have hm := ow'.ok.mem hl
      refine ⟨rfl, _, rfl, A.bo, A.db, _, rfl, h1', rfl, _, rfl, A, S, l, K0, b, M, rfl, ow', hl, _, rfl, ?_⟩
      rw [filter_snoc (enaL b) hlo]
      cases e : (!b.dis l.name) with
      | true =>
        refine iteT ⟨_, rfl, _, sp'.c0, ?_, ?_⟩
        · have z1 := List.length_filter_le (enaL b) (WL.take i)
          have z2 : WL.length ≤ 12 := lenW
          exact sml (m := 12) (by unfold nmsV; simp at z1 ⊢; omega) (by decide)
        · rw [if_pos (show enaL b l = true by unfold enaL; first | (rw [e]; done) | (rw [e]; rfl)), nmsV_snoc]
          exact sp'.put0
      | false =>
        refine iteF ?_
        rw [if_neg (show ¬ enaL b l = true by unfold enaL; rw [e]; simp), List.append_nil]
        exact sp'
    rintro H2 s2
    rw [List.take_of_length_le (by unfold nmsV; simp)] at s2
    refine q D H2 s2.ext (Same.free s1.ext hD) ?_
    have z := s2.c0
    rw [← eW, List.filter_filter] at z
    rw [show (linesO S).filter (readyP b p) = (linesO S).filter (fun x => (enaL b) x && (onL b p) x) from List.filter_congr fun l _ => by unfold readyP; rw [Bool.and_comm]]
    exact z
abbrev N_HouseBoard_unplaced_lines : List Str := ["self", "line"]
theorem sc_HouseBoard_unplaced_lines : FnScope N_HouseBoard_unplaced_lines ["self"] (C8.fnScope s_HouseBoard_unplaced_lines) := C8.fnScope_by (by decide +kernel)
theorem ok_HouseBoard_unplaced_lines {fd : FuncData} (T : Txt K mg) (F : FunD K "unplaced_lines" "HouseBoard.unplaced_lines" (C8.fnArgs s_HouseBoard_unplaced_lines) (C8.fnBody s_HouseBoard_unplaced_lines) (C8.fnScope s_HouseBoard_unplaced_lines) [] [] (He.ma K (aC "HouseBoard" K) "unplaced_lines") fd) (c_ready_lines : C8.Met P w K mg base 7 (aC "HouseBoard" K) "ready_lines" (sp_Board_ready_lines K) []) :
    C8.Met P w K mg base 8 (aC "HouseBoard" K) "unplaced_lines" (sp_HouseBoard_unplaced_lines K) [] := by
  refine C8.met0 T.cl_HouseBoard T.m_HouseBoard_unplaced_lines (fun_c8 F) (F.bindsN fun _ _ _ _ _ _ us hl => match us, hl with | [_], _ => rfl) sc_HouseBoard_unplaced_lines (fun vs H Q E h => ?_) (fun cdv A outer s H vs Q E hr h => ?_)
  · obtain ⟨_, _, _, _, _, rfl, _⟩ := h
    rfl
  · have nd := sc_HouseBoard_unplaced_lines.nd
    have hu := hu_of hr
    obtain ⟨A, S, K0, b, M, rfl, ow, q⟩ := h
    refine ⟨_, (pss_one (ps_ret (pe_lc (own := [("line", 1)]) rfl nd (pi_list (C8.pe_mt0 c_ready_lines hr (by decide) (pv 0))) (blkOk_by (own := [("line", 1)]) (N := N_HouseBoard_unplaced_lines) (sc := (C8.fnScope s_HouseBoard_unplaced_lines)) (by decide +kernel)) (fun _ _ _ _ _ => (pg_name (i := 1) nd rfl (Or.inl rfl))) (fun _ _ _ _ _ => (pts_one (pt_cmpR op_isN (pe_dget hu (pe_fld (pv 0) rfl : PE _ _ (tFld K _ _)) (pv 1) (fun _ _ => rfl)) pe_non (nomark _)))) (fun _ _ _ _ _ => (pv 1))))), ?_⟩
    have B := ow.at_
    have h1 := ow.obj
    refine ⟨_, rfl, A.bo, A.db, _, rfl, h1, rfl, A, S, K0, b, M, rfl, ow, fun a H1 g1 hp hp1 => ?_⟩
    generalize eW : (linesO S).filter (readyB b) = WL at hp1
    have memW : ∀ l ∈ WL, l ∈ S.ls := fun l hl => linesO_mem B.ok (List.mem_filter.mp (eW ▸ hl)).1
    have lenW : WL.length ≤ 12 := by
      rw [← eW]
      exact Nat.le_trans (List.length_filter_le _ _) (linesO_len B.ok)
    have s1 : Sep H H1 [(a, .lst (nmsV WL))] := Sep.nil.own' g1 hp hp1
    refine ⟨_, rfl, ⟨_, l_of hp1⟩, fun D hD => ?_⟩
    refine lc_it (walk_list (xs := nmsV WL)) (fun i H' => Sep H H' ((D, .lst (nmsV ((WL.take i).filter (nopL b)))) :: [(a, .lst (nmsV WL))])) (s1.own hD) ?_ ?_ ?_
    · rintro i H' _ sp'
      exact l_of sp'.c1
    · rintro i v H3 H4 hi sp' ⟨rfl, e2⟩
      unfold nmsV at e2
      rw [List.getElem?_map] at e2
      obtain ⟨l, hlo, rfl⟩ := Option.map_eq_some_iff.mp e2
      have hl : l ∈ S.ls := memW l (List.mem_of_getElem? hlo)
      have ow' := ow.grow sp'.ext
      have h1' := ow'.obj
      have hm := ow'.ok.mem hl
      refine ⟨rfl, _, rfl, _, _, _, _, _, rfl, h1', T.cl_HouseBoard, T.t_HouseBoard_places, rfl, _, rfl, A.pl, _, rfl, od_at hm ▸ DGet.k (k := .inr l.name) ow'.c_pl, rfl, _, rfl, ?_⟩
      rw [filter_snoc (nopL b) hlo]
      cases e : decide (optV (b.pl l.name) = V.non) with
      | true =>
        refine iteT ⟨_, rfl, _, sp'.c0, ?_, ?_⟩
        · have z1 := List.length_filter_le (nopL b) (WL.take i)
          have z2 : WL.length ≤ 12 := lenW
          exact sml (m := 12) (by unfold nmsV; simp at z1 ⊢; omega) (by decide)
        · rw [if_pos (show nopL b l = true by unfold nopL; first | (rw [e]; done) | (rw [e]; rfl)), nmsV_snoc]
          exact sp'.put0
      | false =>
        refine iteF ?_
        rw [if_neg (show ¬ nopL b l = true by unfold nopL; rw [e]; simp), List.append_nil]
        exact sp'
    rintro H2 s2
    rw [List.take_of_length_le (by unfold nmsV; simp)] at s2
    refine q D H2 s2.ext (Same.free s1.ext hD) ?_
    have z := s2.c0
    rw [← eW, List.filter_filter] at z
    rw [show (linesO S).filter (freeP b) = (linesO S).filter (fun x => (nopL b) x && (readyB b) x) from List.filter_congr fun l _ => by unfold freeP; rw [Bool.and_comm]]
    exact z
abbrev N_HouseBoard_load_of : List Str := ["self", "processor", "owned", "line"]
theorem sc_HouseBoard_load_of : FnScope N_HouseBoard_load_of ["self", "processor"] (C8.fnScope s_HouseBoard_load_of) := C8.fnScope_by (by decide +kernel)
theorem ok_HouseBoard_load_of {fd : FuncData} (T : Txt K mg) (F : FunD K "load_of" "HouseBoard.load_of" (C8.fnArgs s_HouseBoard_load_of) (C8.fnBody s_HouseBoard_load_of) (C8.fnScope s_HouseBoard_load_of) [] [] (He.ma K (aC "HouseBoard" K) "load_of") fd) (c_order : FnP P w K mg base 1 (prA "Setup" "order" K) (sp_Setup_order K)) (c_lines_on : C8.Met P w K mg base 3 (aC "HouseBoard" K) "lines_on" (sp_HouseBoard_lines_on K) []) :
    C8.Met P w K mg base 4 (aC "HouseBoard" K) "load_of" (sp_HouseBoard_load_of K) [] := by
  refine C8.met0 T.cl_HouseBoard T.m_HouseBoard_load_of (fun_c8 F) (F.bindsN fun _ _ _ _ _ _ us hl => match us, hl with | [_, _], _ => rfl) sc_HouseBoard_load_of (fun vs H Q E h => ?_) (fun cdv A outer s H vs Q E hr h => ?_)
  · obtain ⟨_, _, _, _, _, _, rfl, _⟩ := h
    rfl
  · have nd := sc_HouseBoard_load_of.nd
    have hu := hu_of hr
    obtain ⟨A, S, K0, b, M, p, rfl, ow, q⟩ := h
    obtain ⟨pp, hpo⟩ := T.p_Setup_order
    refine ⟨_, (pss_cons (ps_setLc (i := 2) (own := [("line", 3)]) rfl nd rfl rfl (sw_true rfl rfl rfl (by decide +kernel)) (pi_tup (C_prop hpo T.cl_Setup c_order hr (by decide) (pe_fld (pv 0) rfl))) (blkOk_by (own := [("line", 3)]) (N := N_HouseBoard_load_of) (sc := (C8.fnScope s_HouseBoard_load_of)) (by decide +kernel)) (fun _ _ _ _ _ => (pg_name (i := 3) nd rfl (Or.inl rfl))) (fun _ _ _ _ _ => (pts_one (pt_cmpR op_eq (pe_dget hu (pe_fld (pv 0) rfl : PE _ _ (tFld K _ _)) (pv 3) (fun _ _ => rfl)) (pv 1) (nomark _)))) (fun _ _ _ _ _ => (pv 3)))
      (pss_one (ps_ret (pe_op op_add (pe_callB call_len_seq (by rfl) T.n_len (by decide +kernel) (pa_cons (C8.pe_mt c_lines_on hr (by decide) (pv 0) (pa_cons (pv 1) pa_nil)) pa_nil)) (pe_callB call_len_seq (by rfl) T.n_len (by decide +kernel) (pa_cons (pv 2) pa_nil)))))), ?_⟩
    have B := ow.at_
    have h1 := ow.obj
    obtain ⟨dx2, _, _, _, _, _, h3, _⟩ := B.su.ex
    refine ⟨_, rfl, _, _, _, _, _, rfl, h1, T.cl_HouseBoard, T.t_HouseBoard_setup, rfl, A.su, dx2, _, rfl, h3, A.su, S, H, rfl, B.su, Same.refl H, fun oa hoa => ?_⟩
    rw [order_nms B.ok] at hoa
    refine ⟨_, rfl, ⟨_, t_of hoa⟩, fun D hD => ?_⟩
    refine lc_it (walk_tup (xs := nmsV (linesO S))) (fun i H' => Sep H H' ((D, .lst (nmsV (((linesO S).take i).filter (ownL b p)))) :: [])) ((Sep.nil (H := H)).own hD) ?_ ?_ ?_
    · rintro i H' _ sp'
      exact t_of (sp'.ext _ _ hoa)
    · rintro i v H3 H4 hi sp' ⟨rfl, e2⟩
      unfold nmsV at e2
      rw [List.getElem?_map] at e2
      obtain ⟨l, hlo, rfl⟩ := Option.map_eq_some_iff.mp e2
      have hl : l ∈ S.ls := linesO_mem B.ok (List.mem_of_getElem? hlo)
      have ow' := ow.grow sp'.ext
      have h1' := ow'.obj
      have hm := ow'.ok.mem hl
      refine ⟨rfl, _, rfl, _, _, _, _, _, rfl, h1', T.cl_HouseBoard, T.t_HouseBoard_owners, rfl, _, rfl, A.ow, _, rfl, od_at hm ▸ DGet.k (k := .inr l.name) ow'.c_ow, _, rfl, scal_opt _ _, _, rfl, ?_⟩
      rw [filter_snoc (ownL b p) hlo]
      cases e : decide (optV (b.ow l.name) = V.int p) with
      | true =>
        refine iteT ⟨_, rfl, _, sp'.c0, ?_, ?_⟩
        · have z1 := List.length_filter_le (ownL b p) ((linesO S).take i)
          have z2 : (linesO S).length ≤ 12 := linesO_len B.ok
          exact sml (m := 12) (by unfold nmsV; simp at z1 ⊢; omega) (by decide)
        · rw [if_pos (show ownL b p l = true by unfold ownL; first | (rw [e]; done) | (rw [e]; rfl)), nmsV_snoc]
          exact sp'.put0
      | false =>
        refine iteF ?_
        rw [if_neg (show ¬ ownL b p l = true by unfold ownL; rw [e]; simp), List.append_nil]
        exact sp'
    rintro H1 s1
    rw [List.take_of_length_le (by unfold nmsV; simp)] at s1
    have ow1 := ow.grow s1.ext
    have h2 := ow1.obj
    refine ⟨_, rfl, A.bo, A.db, _, rfl, h2, rfl, _, rfl, A, S, K0, b, M, p, rfl, ow1, fun a H2 g2 hp hp2 => ?_⟩
    refine ⟨_, _, rfl, .inl (l_of hp2), _, rfl, _, _, rfl, .inl (l_of (g2 _ _ s1.c0)), _, _, rfl, rfl, ?_⟩
    have z := q H2 (Same.tr s1.ext g2)
    rw [show ((loadB S b p : Nat) : Int) = (((nmsV ((linesO S).filter (onL b p))).length : Nat) : Int) + (((nmsV ((linesO S).filter (ownL b p))).length : Nat) : Int) by unfold loadB nmsV; simp] at z
    exact z
abbrev N_HouseBoard_tick_number : List Str := ["self"]
theorem sc_HouseBoard_tick_number : FnScope N_HouseBoard_tick_number ["self"] (C8.fnScope s_HouseBoard_tick_number) := C8.fnScope_by (by decide +kernel)
theorem ok_HouseBoard_tick_number {fd : FuncData} (T : Txt K mg) (F : FunD K "tick_number" "HouseBoard.tick_number" (C8.fnArgs s_HouseBoard_tick_number) (C8.fnBody s_HouseBoard_tick_number) (C8.fnScope s_HouseBoard_tick_number) [] [] (He.ma K (aC "HouseBoard" K) "tick_number") fd) :
    C8.Met P w K mg base 1 (aC "HouseBoard" K) "tick_number" (sp_HouseBoard_tick_number K) [] := by
  refine C8.met0 T.cl_HouseBoard T.m_HouseBoard_tick_number (fun_c8 F) (F.bindsN fun _ _ _ _ _ _ us hl => match us, hl with | [_], _ => rfl) sc_HouseBoard_tick_number (fun vs H Q E h => ?_) (fun cdv A outer s H vs Q E hr h => ?_)
  · obtain ⟨_, _, _, _, _, rfl, _⟩ := h
    rfl
  · have nd := sc_HouseBoard_tick_number.nd
    have hu := hu_of hr
    obtain ⟨A, S, K0, b, M, rfl, ow, q⟩ := h
    refine ⟨_, (pss_one (ps_ret (pe_fld (pv 0) rfl))), ?_⟩
    have h1 := ow.obj
    exact ⟨_, rfl, _, _, _, _, _, rfl, h1, T.cl_HouseBoard, T.t_HouseBoard_tick, rfl, q⟩
abbrev N_HouseBoard_place_of : List Str := ["self", "line"]
theorem sc_HouseBoard_place_of : FnScope N_HouseBoard_place_of ["self", "line"] (C8.fnScope s_HouseBoard_place_of) := C8.fnScope_by (by decide +kernel)
theorem ok_HouseBoard_place_of {fd : FuncData} (T : Txt K mg) (F : FunD K "place_of" "HouseBoard.place_of" (C8.fnArgs s_HouseBoard_place_of) (C8.fnBody s_HouseBoard_place_of) (C8.fnScope s_HouseBoard_place_of) [] [] (He.ma K (aC "HouseBoard" K) "place_of") fd) :
    C8.Met P w K mg base 1 (aC "HouseBoard" K) "place_of" (sp_HouseBoard_place_of K) [] := by
  refine C8.met0 T.cl_HouseBoard T.m_HouseBoard_place_of (fun_c8 F) (F.bindsN fun _ _ _ _ _ _ us hl => match us, hl with | [_, _], _ => rfl) sc_HouseBoard_place_of (fun vs H Q E h => ?_) (fun cdv A outer s H vs Q E hr h => ?_)
  · obtain ⟨_, _, _, _, _, _, rfl, _⟩ := h
    rfl
  · have nd := sc_HouseBoard_place_of.nd
    have hu := hu_of hr
    obtain ⟨A, S, l, K0, b, M, rfl, ow, hl, q⟩ := h
    refine ⟨_, (pss_one (ps_ret (pe_dget hu (pe_fld (pv 0) rfl) (pv 1) (fun _ _ => rfl)))), ?_⟩
    have h1 := ow.obj
    have hm := ow.ok.mem hl
    exact ⟨_, rfl, _, _, _, _, _, rfl, h1, T.cl_HouseBoard, T.t_HouseBoard_places, rfl, _, rfl, A.pl, _, rfl, od_at hm ▸ DGet.k (k := .inr l.name) ow.c_pl, q⟩
abbrev N_HouseBoard_owner_of : List Str := ["self", "line"]
theorem sc_HouseBoard_owner_of : FnScope N_HouseBoard_owner_of ["self", "line"] (C8.fnScope s_HouseBoard_owner_of) := C8.fnScope_by (by decide +kernel)
theorem ok_HouseBoard_owner_of {fd : FuncData} (T : Txt K mg) (F : FunD K "owner_of" "HouseBoard.owner_of" (C8.fnArgs s_HouseBoard_owner_of) (C8.fnBody s_HouseBoard_owner_of) (C8.fnScope s_HouseBoard_owner_of) [] [] (He.ma K (aC "HouseBoard" K) "owner_of") fd) :
    C8.Met P w K mg base 1 (aC "HouseBoard" K) "owner_of" (sp_HouseBoard_owner_of K) [] := by
  refine C8.met0 T.cl_HouseBoard T.m_HouseBoard_owner_of (fun_c8 F) (F.bindsN fun _ _ _ _ _ _ us hl => match us, hl with | [_, _], _ => rfl) sc_HouseBoard_owner_of (fun vs H Q E h => ?_) (fun cdv A outer s H vs Q E hr h => ?_)
  · obtain ⟨_, _, _, _, _, _, rfl, _⟩ := h
    rfl
  · have nd := sc_HouseBoard_owner_of.nd
    have hu := hu_of hr
    obtain ⟨A, S, l, K0, b, M, rfl, ow, hl, q⟩ := h
    refine ⟨_, (pss_one (ps_ret (pe_dget hu (pe_fld (pv 0) rfl) (pv 1) (fun _ _ => rfl)))), ?_⟩
    have h1 := ow.obj
    have hm := ow.ok.mem hl
    exact ⟨_, rfl, _, _, _, _, _, rfl, h1, T.cl_HouseBoard, T.t_HouseBoard_owners, rfl, _, rfl, A.ow, _, rfl, od_at hm ▸ DGet.k (k := .inr l.name) ow.c_ow, q⟩
abbrev N_HouseBoard_put_on : List Str := ["self", "line", "processor"]
theorem sc_HouseBoard_put_on : FnScope N_HouseBoard_put_on ["self", "line", "processor"] (C8.fnScope s_HouseBoard_put_on) := C8.fnScope_by (by decide +kernel)
theorem ok_HouseBoard_put_on {fd : FuncData} (T : Txt K mg) (F : FunD K "put_on" "HouseBoard.put_on" (C8.fnArgs s_HouseBoard_put_on) (C8.fnBody s_HouseBoard_put_on) (C8.fnScope s_HouseBoard_put_on) [] [] (He.ma K (aC "HouseBoard" K) "put_on") fd) :
    C8.Met P w K mg base 1 (aC "HouseBoard" K) "put_on" (sp_HouseBoard_put_on K) [] := by
  refine C8.met0 T.cl_HouseBoard T.m_HouseBoard_put_on (fun_c8 F) (F.bindsN fun _ _ _ _ _ _ us hl => match us, hl with | [_, _, _], _ => rfl) sc_HouseBoard_put_on (fun vs H Q E h => ?_) (fun cdv A outer s H vs Q E hr h => ?_)
  · obtain ⟨_, _, _, _, _, _, _, rfl, _⟩ := h
    rfl
  · have nd := sc_HouseBoard_put_on.nd
    have hu := hu_of hr
    obtain ⟨A, S, l, p, K0, b, M, rfl, ow, hl, q⟩ := h
    refine ⟨_, (pss_one (ps_dput hu (pe_fld (pv 0) rfl) (pv 1) (pv 2) rfl)), ?_⟩
    have h1 := ow.obj
    have hm := ow.ok.mem hl
    obtain ⟨rv, fv, p1, p2, sp⟩ := ow.ex
    have dp := DPut.k (k := .inr l.name) (v := optV (some p)) sp.c6 (od_len ow.ok _)
    rw [putK_od hm] at dp
    exact ⟨_, rfl, _, rfl, _, _, _, _, _, rfl, h1, T.cl_HouseBoard, T.t_HouseBoard_places, rfl, _, rfl, A.pl, _, rfl, dp, q _ ⟨ow.su, ow.ok, ow.bk.put l.name (some p), rv, fv, p1, p2, sp.put6⟩⟩
abbrev N_HouseBoard_pass_tick : List Str := ["self"]
theorem sc_HouseBoard_pass_tick : FnScope N_HouseBoard_pass_tick ["self"] (C8.fnScope s_HouseBoard_pass_tick) := C8.fnScope_by (by decide +kernel)
theorem ok_HouseBoard_pass_tick {fd : FuncData} (T : Txt K mg) (F : FunD K "pass_tick" "HouseBoard.pass_tick" (C8.fnArgs s_HouseBoard_pass_tick) (C8.fnBody s_HouseBoard_pass_tick) (C8.fnScope s_HouseBoard_pass_tick) [] [] (He.ma K (aC "HouseBoard" K) "pass_tick") fd) :
    C8.Met P w K mg base 1 (aC "HouseBoard" K) "pass_tick" (sp_HouseBoard_pass_tick K) [] := by
  refine C8.met0 T.cl_HouseBoard T.m_HouseBoard_pass_tick (fun_c8 F) (F.bindsN fun _ _ _ _ _ _ us hl => match us, hl with | [_], _ => rfl) sc_HouseBoard_pass_tick (fun vs H Q E h => ?_) (fun cdv A outer s H vs Q E hr h => ?_)
  · obtain ⟨_, _, _, _, _, rfl, _⟩ := h
    rfl
  · have nd := sc_HouseBoard_pass_tick.nd
    have hu := hu_of hr
    obtain ⟨A, S, K0, b, M, rfl, ow, q⟩ := h
    refine ⟨_, (pss_one (ps_fldaug (pv 0) pe_int in_add)), ?_⟩
    have h1 := ow.obj
    obtain ⟨rv, fv, p1, p2, sp⟩ := ow.ex
    refine ⟨_, rfl, _, _, _, _, _, rfl, h1, T.cl_HouseBoard, T.t_HouseBoard_tick, rfl, _, _, rfl, rfl, _, _, h1, by simp, ?_⟩
    exact q _ ⟨ow.su, ow.ok, ow.bk.tick, rv, fv, p1, p2, sp.put5⟩
abbrev N_HouseBoard_ring_rows : List Str := ["self"]
theorem sc_HouseBoard_ring_rows : FnScope N_HouseBoard_ring_rows ["self"] (C8.fnScope s_HouseBoard_ring_rows) := C8.fnScope_by (by decide +kernel)
theorem ok_HouseBoard_ring_rows {fd : FuncData} (T : Txt K mg) (F : FunD K "ring_rows" "HouseBoard.ring_rows" (C8.fnArgs s_HouseBoard_ring_rows) (C8.fnBody s_HouseBoard_ring_rows) (C8.fnScope s_HouseBoard_ring_rows) [] [] (He.ma K (aC "HouseBoard" K) "ring_rows") fd) :
    C8.Met P w K mg base 1 (aC "HouseBoard" K) "ring_rows" (sp_HouseBoard_ring_rows K) [] := by
  refine C8.met0 T.cl_HouseBoard T.m_HouseBoard_ring_rows (fun_c8 F) (F.bindsN fun _ _ _ _ _ _ us hl => match us, hl with | [_], _ => rfl) sc_HouseBoard_ring_rows (fun vs H Q E h => ?_) (fun cdv A outer s H vs Q E hr h => ?_)
  · obtain ⟨_, _, _, _, _, rfl, _⟩ := h
    rfl
  · have nd := sc_HouseBoard_ring_rows.nd
    have hu := hu_of hr
    obtain ⟨A, S, K0, b, M, rfl, ow, hn, q⟩ := h
    refine ⟨_, (pss_one (ps_ret (pe_callTy call_list_of (by rfl) T.n_list (by decide +kernel) (pa_cons (pe_fld (pv 0) rfl) pa_nil)))), ?_⟩
    have h1 := ow.obj
    obtain ⟨rv, fv, p1, p2, sp⟩ := ow.ex
    exact ⟨_, rfl, _, _, _, _, _, rfl, h1, T.cl_HouseBoard, T.t_HouseBoard_rings, rfl, _, _, rfl, .inl (l_of sp.c8), fun a ha => q a _ rv (same_new (Same.refl H) ha) ha upd_same p1⟩
abbrev N_HouseBoard_ring_fate : List Str := ["self", "number", "fate"]
theorem sc_HouseBoard_ring_fate : FnScope N_HouseBoard_ring_fate ["self", "number"] (C8.fnScope s_HouseBoard_ring_fate) := C8.fnScope_by (by decide +kernel)
theorem ok_HouseBoard_ring_fate {fd : FuncData} (T : Txt K mg) (F : FunD K "ring_fate" "HouseBoard.ring_fate" (C8.fnArgs s_HouseBoard_ring_fate) (C8.fnBody s_HouseBoard_ring_fate) (C8.fnScope s_HouseBoard_ring_fate) [] [] (He.ma K (aC "HouseBoard" K) "ring_fate") fd) :
    C8.Met P w K mg base 1 (aC "HouseBoard" K) "ring_fate" (sp_HouseBoard_ring_fate K) [] := by
  refine C8.met0 T.cl_HouseBoard T.m_HouseBoard_ring_fate (fun_c8 F) (F.bindsN fun _ _ _ _ _ _ us hl => match us, hl with | [_, _], _ => rfl) sc_HouseBoard_ring_fate (fun vs H Q E h => ?_) (fun cdv A outer s H vs Q E hr h => ?_)
  · obtain ⟨_, _, _, _, _, _, rfl, _⟩ := h
    rfl
  · have nd := sc_HouseBoard_ring_fate.nd
    have hu := hu_of hr
    obtain ⟨A, S, K0, b, M, n, rfl, ow, hn, hs, q⟩ := h
    refine ⟨_, (pss_cons (ps_set (i := 2) nd rfl (Or.inl rfl) (pe_ix ix_list (pe_fld (pv 0) rfl) (pv 1) (fun _ _ => rfl)))
      (pss_cons (ps_if (pt_cmpR op_isN (pv 2) pe_non (nomark _)) (pss_one (ps_ret (pe_tup (pa_cons pe_str (pa_cons (pe_dget hu (pe_fld (pv 0) rfl) (pe_ix ix_tup (pe_ix ix_list (pe_fld (pv 0) rfl) (pv 1) (fun _ _ => rfl)) pe_int (fun _ _ => rfl)) (fun _ _ => rfl)) pa_nil))))) pss_nil)
      (pss_one (ps_ret (pv 2))))), ?_⟩
    have h1 := ow.obj
    obtain ⟨rv, fv, p1, p2, sp⟩ := ow.ex
    have hf : b.fa[n]? = some b.fa[n] := List.getElem?_eq_getElem hn
    obtain ⟨u, hu2, hu3⟩ := pgetr p2 hf
    refine ⟨_, rfl, _, _, _, _, _, rfl, h1, T.cl_HouseBoard, T.t_HouseBoard_fates, rfl, _, rfl, _, _, _, _, rfl, rfl, l_of sp.c9, atIn hu2, ?_⟩
    have hg : b.fa.getD n .wait = b.fa[n] := by rw [List.getD_eq_getElem?_getD, hf]; rfl
    rw [hg] at q
    generalize b.fa[n] = ft at hu3 q
    cases ft with
    | wait =>
      have hu3 : u = .non := hu3
      subst hu3
      refine ⟨_, rfl, rfl, true, rfl, iteT ?_⟩
      have hnr : n < b.rg.length := by rw [← ow.bk.nk.len]; exact hn
      have hr : b.rg[n]? = some b.rg[n] := List.getElem?_eq_getElem hnr
      obtain ⟨w2, hw2, t0, rfl, ht0⟩ := pgetr p1 hr
      have hm := hs _ (List.mem_of_getElem? hr)
      refine ⟨_, rfl, _, _, _, _, _, rfl, h1, T.cl_HouseBoard, T.t_HouseBoard_places, rfl, _, rfl, _, _, _, _, _, rfl, h1, T.cl_HouseBoard, T.t_HouseBoard_rings, rfl, _, rfl, _, _, _, _, rfl, rfl, l_of sp.c8, atIn hw2, _, _, _, _, rfl, rfl, Same.tup sp.ext ht0, rfl, A.pl, _, rfl, od_at hm ▸ DGet.k (k := .inr b.rg[n].2) sp.c6, small8 (by simp), fun t ht => ?_⟩
      obtain ⟨o2, g2⟩ := ow.keepM (x := .tup [.str "waits", optV (b.pl b.rg[n].2)]) ht
      exact q _ _ _ g2 o2 ⟨t, _, rfl, hr, t_of upd_same⟩
    | merged k =>
      obtain ⟨t, rfl, ht⟩ := hu3
      exact ⟨_, rfl, rfl, false, rfl, iteF ⟨_, rfl, q K0 _ _ (Same.refl _) ow ⟨t, rfl, ht⟩⟩⟩
    | served i p =>
      obtain ⟨t, rfl, ht⟩ := hu3
      exact ⟨_, rfl, rfl, false, rfl, iteF ⟨_, rfl, q K0 _ _ (Same.refl _) ow ⟨t, rfl, ht⟩⟩⟩
end
end Cb

namespace Cb
open PySem PySem.Spec PyProof.Rows L2

open NdefX
def nof : Str → Option Int := fun _ => none
def non : Str → Option Nat := fun _ => none
def bdS (S : SetD) : BdD := ⟨fun n => (lineOf S n).lvl, no, no, no, List.replicate 8 false, no0, 0, nof, nof, [], [], non⟩
theorem BdOk.new {S : SetD} (ok : SetOk S) : BdOk S (bdS S) := ⟨fun l m => by show (lineOf S l.name).lvl = l.lvl; rw [lineOf_eq ok m], by simp [bdS], rfl, fun _ _ h => by cases h⟩
def bo6 (K : PySem.W.Frag) (dx su r d u f g : Addr) : HO := .ins (aC "HouseBoard" K) dx [("_setup", .ref su), ("_rung", .ref r), ("_disabled", .ref d), ("_under_way", .ref u), ("_flags", .ref f), ("_merges", .ref g)]
def sp_Board_init (K : PySem.W.Frag) : Sp := fun vs H Q _ => ∃ (x dx su : Addr) (S : SetD) (K0 : Hp) (M : List (Addr × HO)), vs = [.ref x, .ref su] ∧ Sep K0 H ((x, .ins (aC "HouseBoard" K) dx []) :: M) ∧ SetupAt K K0 su S ∧ SetOk S ∧
  ∀ H' r d u f g, Sep K0 H' ((x, bo6 K dx su r d u f g) :: (r, .dK (bd S.order no)) :: (d, .dK (bd S.order no)) :: (u, .dK (bd S.order no)) :: (f, .lst (List.replicate 8 (.bl false))) :: (g, .dK (md S.order no0)) :: M) → Q .non H'
def sp_HouseBoard_init (K : PySem.W.Frag) : Sp := fun vs H Q _ => ∃ (x dx su : Addr) (S : SetD) (K0 : Hp) (M : List (Addr × HO)), vs = [.ref x, .ref su] ∧ Sep K0 H ((x, .ins (aC "HouseBoard" K) dx []) :: M) ∧ SetupAt K K0 su S ∧ SetOk S ∧
  ∀ H' A, A.bo = x → A.su = su → OwnB K A S K0 H' (bdS S) M → Q .non H'
def sp_HouseBoard_all_fates (K : PySem.W.Frag) : Sp := fun vs H Q _ => ∃ (A : AdB) (S : SetD) (K0 : Hp) (b : BdD) (M : List (Addr × HO)), vs = [.ref A.bo] ∧ OwnB K A S K0 H b M ∧ b.rg.length < 16000000 ∧ (∀ r ∈ b.rg, r.2 ∈ S.order) ∧
  ∀ K1 H' a fv, Same K0 K1 → OwnB K A S K1 H' b ((a, .lst fv) :: M) → fv.length = b.fa.length → (∀ n v, fv[n]? = some v → FtT K K1 b n v (b.fa.getD n .wait)) → Q (.ref a) H'
theorem od_snoc' {o : List Str} (nd : o.Nodup) {i : Nat} {n : Str} (h : o[i]? = some n) : putK (od (o.take i) nof) (.inr n) .non = od (o.take (i + 1)) nof := od_snoc (f := nof) nd h
theorem on_snoc' {o : List Str} (nd : o.Nodup) {i : Nat} {n : Str} (h : o[i]? = some n) : putK (onn (o.take i) non) (.inr n) .non = onn (o.take (i + 1)) non := on_snoc (f := non) nd h
theorem FtT.up {K : PySem.W.Frag} {H H' : Hp} {b : BdD} {n : Nat} {v : V} {f : FtD} (e : Same H H') (h : FtT K H b n v f) : FtT K H' b n v f := by
  cases f with
  | wait => obtain ⟨t, r, a, c, d⟩ := h; exact ⟨t, r, a, c, Same.tup e d⟩
  | merged k => obtain ⟨t, a, d⟩ := h; exact ⟨t, a, Same.tup e d⟩
  | served i p => obtain ⟨t, a, d⟩ := h; exact ⟨t, a, Same.tup e d⟩

section
variable {P : Program} {w : World} {K : PySem.W.Frag} {mg : Str → Option Value} {base : Heap}

abbrev N_Board_init : List Str := ["self", "setup", "name", "_"]
theorem sc_Board_init : FnScope N_Board_init ["self", "setup"] (C8.fnScope s_Board_init) := C8.fnScope_by (by decide +kernel)
theorem ok_Board_init {fd : FuncData} (T : Txt K mg) (F : FunD K "__init__" "Board.__init__" (C8.fnArgs s_Board_init) (C8.fnBody s_Board_init) (C8.fnScope s_Board_init) [] [] (He.ma K (aC "Board" K) "__init__") fd) (c_order : FnP P w K mg base 1 (prA "Setup" "order" K) (sp_Setup_order K)) :
    BFn P w K mg base 3 (He.ma K (aC "Board" K) "__init__") (sp_Board_init K) := by
  refine fnR0 (fun_c8 F) (F.bindsN fun _ _ _ _ _ _ us hl => match us, hl with | [_, _], _ => rfl) sc_Board_init (fun vs H Q E h => ?_) (fun cdv A outer s H vs Q E hr h => ?_)
  · obtain ⟨_, _, _, _, _, _, rfl, _⟩ := h
    rfl
  · have nd := sc_Board_init.nd
    have hu := hu_of hr
    obtain ⟨x, dx, su, S, K0, M, rfl, sp, hS, ok, q⟩ := h
    obtain ⟨p, hpo⟩ := T.p_Setup_order
    refine ⟨_, (pss_cons (ps_fld (pv 0) (pv 1) rfl)
      (pss_cons (ps_fld (pv 0) (pe_dc (own := [("name", 2)]) rfl nd (pi_tup (C_prop hpo T.cl_Setup c_order hr (by decide) (pv 1))) (blkOk_by (own := [("name", 2)]) (N := N_Board_init) (sc := (C8.fnScope s_Board_init)) (by decide +kernel)) (fun _ _ _ _ _ => (pg_name (i := 2) nd rfl (Or.inl rfl))) (fun _ _ _ _ _ => pts_nil) (fun _ _ _ _ _ => (pv 2)) (fun _ _ _ _ _ => pe_bl)) rfl)
      (pss_cons (ps_fld (pv 0) (pe_dc (own := [("name", 2)]) rfl nd (pi_tup (C_prop hpo T.cl_Setup c_order hr (by decide) (pv 1))) (blkOk_by (own := [("name", 2)]) (N := N_Board_init) (sc := (C8.fnScope s_Board_init)) (by decide +kernel)) (fun _ _ _ _ _ => (pg_name (i := 2) nd rfl (Or.inl rfl))) (fun _ _ _ _ _ => pts_nil) (fun _ _ _ _ _ => (pv 2)) (fun _ _ _ _ _ => pe_bl)) rfl)
      (pss_cons (ps_fld (pv 0) (pe_dc (own := [("name", 2)]) rfl nd (pi_tup (C_prop hpo T.cl_Setup c_order hr (by decide) (pv 1))) (blkOk_by (own := [("name", 2)]) (N := N_Board_init) (sc := (C8.fnScope s_Board_init)) (by decide +kernel)) (fun _ _ _ _ _ => (pg_name (i := 2) nd rfl (Or.inl rfl))) (fun _ _ _ _ _ => pts_nil) (fun _ _ _ _ _ => (pv 2)) (fun _ _ _ _ _ => pe_bl)) rfl)
      (pss_cons (ps_fld (pv 0) (pe_lc (own := [("_", 3)]) rfl nd (pi_range1 (by rfl) T.n_range (pa_cons (pe_op op_add (ClX.pe_cval (pe_glob (v := .ref (aC "Setup" K)) rfl T.g_Setup rfl)) pe_int) pa_nil)) (blkOk_by (own := [("_", 3)]) (N := N_Board_init) (sc := (C8.fnScope s_Board_init)) (by decide +kernel)) (fun _ _ _ _ _ => (pg_name (i := 3) nd rfl (Or.inl rfl))) (fun _ _ _ _ _ => pts_nil) (fun _ _ _ _ _ => pe_bl)) rfl)
      (pss_one (ps_fld (pv 0) (pe_dc (own := [("name", 2)]) rfl nd (pi_tup (C_prop hpo T.cl_Setup c_order hr (by decide) (pv 1))) (blkOk_by (own := [("name", 2)]) (N := N_Board_init) (sc := (C8.fnScope s_Board_init)) (by decide +kernel)) (fun _ _ _ _ _ => (pg_name (i := 2) nd rfl (Or.inl rfl))) (fun _ _ _ _ _ => pts_nil) (fun _ _ _ _ _ => (pv 2)) (fun _ _ _ _ _ => pe_int)) rfl))))))), ?_⟩
    obtain ⟨dx2, _, _, _, _, _, h3, _⟩ := hS.ex
    obtain ⟨u3, c3⟩ := T.c_Setup_MAX_FLAG
    refine ⟨_, rfl, _, rfl, _, _, _, _, rfl, sp.c0, T.cl_HouseBoard, T.t_HouseBoard_setup, (by simp), ?_⟩
    have t0 := sp.put0 (o' := .ins (aC "HouseBoard" K) dx [("_setup", .ref su)])
    refine ⟨_, rfl, su, _, _, rfl, t0.ext _ _ h3, su, S, K0, rfl, hS, t0.ext, fun oa hoa => ?_⟩
    refine ⟨_, rfl, ⟨_, t_of (t0.ext _ _ hoa)⟩, fun r hD => ?_⟩
    refine dc_it (walk_tup (xs := S.order.map V.str)) (fun i H' => Sep K0 H' ((r, .dK (bd (S.order.take i) no)) :: (x, .ins (aC "HouseBoard" K) dx [("_setup", .ref su)]) :: M)) (t0.own hD) ?_ ?_ ?_
    · rintro i H' _ sp
      exact t_of (sp.ext _ _ hoa)
    · rintro i v H1 H2 hi sp ⟨rfl, e2⟩
      rw [List.getElem?_map] at e2
      obtain ⟨n, hn, rfl⟩ := Option.map_eq_some_iff.mp e2
      refine ⟨rfl, ⟨_, rfl, _, .inr n, rfl, sp.c0, ?_, ?_⟩⟩
      · exact sml (m := 12) (by have := ok.len; simp [bd]; omega) (by decide)
      · have z := sp.put0 (o' := .dK (putK (bd (S.order.take i) no) (.inr n) (.bl (no n))))
        rw [bd_snoc ok.nd hn] at z
        rw [show V.bl false = V.bl (no n) from rfl, bd_snoc ok.nd hn]
        exact z
    rintro H0 a0
    rw [List.take_of_length_le (by simp)] at a0
    refine ⟨_, rfl, _, _, _, _, rfl, a0.c1, T.cl_HouseBoard, T.t_HouseBoard_rung, (by simp), ?_⟩
    have t1 := a0.swap.put0 (o' := ((x, .ins (aC "HouseBoard" K) dx [("_setup", .ref su), ("_rung", .ref r)]) : Addr × HO).2)
    refine ⟨_, rfl, su, _, _, rfl, t1.ext _ _ h3, su, S, K0, rfl, hS, t1.ext, fun oa hoa => ?_⟩
    refine ⟨_, rfl, ⟨_, t_of (t1.ext _ _ hoa)⟩, fun d hD => ?_⟩
    refine dc_it (walk_tup (xs := S.order.map V.str)) (fun i H' => Sep K0 H' ((d, .dK (bd (S.order.take i) no)) :: (x, .ins (aC "HouseBoard" K) dx [("_setup", .ref su), ("_rung", .ref r)]) :: (r, .dK (bd S.order no)) :: M)) (t1.own hD) ?_ ?_ ?_
    · rintro i H' _ sp
      exact t_of (sp.ext _ _ hoa)
    · rintro i v H1 H2 hi sp ⟨rfl, e2⟩
      rw [List.getElem?_map] at e2
      obtain ⟨n, hn, rfl⟩ := Option.map_eq_some_iff.mp e2
      refine ⟨rfl, ⟨_, rfl, _, .inr n, rfl, sp.c0, ?_, ?_⟩⟩
      · exact sml (m := 12) (by have := ok.len; simp [bd]; omega) (by decide)
      · have z := sp.put0 (o' := .dK (putK (bd (S.order.take i) no) (.inr n) (.bl (no n))))
        rw [bd_snoc ok.nd hn] at z
        rw [show V.bl false = V.bl (no n) from rfl, bd_snoc ok.nd hn]
        exact z
    rintro H1 a1
    rw [List.take_of_length_le (by simp)] at a1
    refine ⟨_, rfl, _, _, _, _, rfl, a1.c1, T.cl_HouseBoard, T.t_HouseBoard_disabled, (by simp), ?_⟩
    have t2 := a1.swap.put0 (o' := ((x, .ins (aC "HouseBoard" K) dx [("_setup", .ref su), ("_rung", .ref r), ("_disabled", .ref d)]) : Addr × HO).2)
    refine ⟨_, rfl, su, _, _, rfl, t2.ext _ _ h3, su, S, K0, rfl, hS, t2.ext, fun oa hoa => ?_⟩
    refine ⟨_, rfl, ⟨_, t_of (t2.ext _ _ hoa)⟩, fun u hD => ?_⟩
    refine dc_it (walk_tup (xs := S.order.map V.str)) (fun i H' => Sep K0 H' ((u, .dK (bd (S.order.take i) no)) :: (x, .ins (aC "HouseBoard" K) dx [("_setup", .ref su), ("_rung", .ref r), ("_disabled", .ref d)]) :: (d, .dK (bd S.order no)) :: (r, .dK (bd S.order no)) :: M)) (t2.own hD) ?_ ?_ ?_
    · rintro i H' _ sp
      exact t_of (sp.ext _ _ hoa)
    · rintro i v H1 H2 hi sp ⟨rfl, e2⟩
      rw [List.getElem?_map] at e2
      obtain ⟨n, hn, rfl⟩ := Option.map_eq_some_iff.mp e2
      refine ⟨rfl, ⟨_, rfl, _, .inr n, rfl, sp.c0, ?_, ?_⟩⟩
      · exact sml (m := 12) (by have := ok.len; simp [bd]; omega) (by decide)
      · have z := sp.put0 (o' := .dK (putK (bd (S.order.take i) no) (.inr n) (.bl (no n))))
        rw [bd_snoc ok.nd hn] at z
        rw [show V.bl false = V.bl (no n) from rfl, bd_snoc ok.nd hn]
        exact z
    rintro H2 a2
    rw [List.take_of_length_le (by simp)] at a2
    refine ⟨_, rfl, _, _, _, _, rfl, a2.c1, T.cl_HouseBoard, T.t_HouseBoard_under_way, (by simp), ?_⟩
    have t3 := a2.swap.put0 (o' := ((x, .ins (aC "HouseBoard" K) dx [("_setup", .ref su), ("_rung", .ref r), ("_disabled", .ref d), ("_under_way", .ref u)]) : Addr × HO).2)
    refine ⟨_, _, _, _, rfl, T.r_Setup, c3, _, _, rfl, rfl, _, rfl, by decide, by decide, fun F hF => ?_⟩
    refine lc_it (walk_range (lo := 0) (n := 8)) (fun i H' => Sep K0 H' ((F, .lst (List.replicate i (.bl false))) :: (x, .ins (aC "HouseBoard" K) dx [("_setup", .ref su), ("_rung", .ref r), ("_disabled", .ref d), ("_under_way", .ref u)]) :: (u, .dK (bd S.order no)) :: (d, .dK (bd S.order no)) :: (r, .dK (bd S.order no)) :: M)) (t3.own hF) ?_ ?_ ?_
    · exact fun _ _ _ _ => trivial
    · rintro i v H3 H4 hi sp ⟨rfl, e2⟩
      refine ⟨rfl, ⟨_, sp.c0, ?_, ?_⟩⟩
      · rw [List.length_replicate]
        exact sml (m := 12) (by omega) (by decide)
      · rw [List.replicate_succ']
        exact sp.put0
    rintro H5 a5
    refine ⟨_, rfl, _, _, _, _, rfl, a5.c1, T.cl_HouseBoard, T.t_HouseBoard_flags, (by simp), ?_⟩
    have t5 := a5.swap.put0 (o' := ((x, .ins (aC "HouseBoard" K) dx [("_setup", .ref su), ("_rung", .ref r), ("_disabled", .ref d), ("_under_way", .ref u), ("_flags", .ref F)]) : Addr × HO).2)
    refine ⟨_, rfl, su, _, _, rfl, t5.ext _ _ h3, su, S, K0, rfl, hS, t5.ext, fun oa hoa => ?_⟩
    refine ⟨_, rfl, ⟨_, t_of (t5.ext _ _ hoa)⟩, fun G hD => ?_⟩
    refine dc_it (walk_tup (xs := S.order.map V.str)) (fun i H' => Sep K0 H' ((G, .dK (md (S.order.take i) no0)) :: (x, .ins (aC "HouseBoard" K) dx [("_setup", .ref su), ("_rung", .ref r), ("_disabled", .ref d), ("_under_way", .ref u), ("_flags", .ref F)]) :: (F, .lst (List.replicate 8 (.bl false))) :: (u, .dK (bd S.order no)) :: (d, .dK (bd S.order no)) :: (r, .dK (bd S.order no)) :: M)) (t5.own hD) ?_ ?_ ?_
    · rintro i H' _ sp
      exact t_of (sp.ext _ _ hoa)
    · rintro i v H1 H2 hi sp ⟨rfl, e2⟩
      rw [List.getElem?_map] at e2
      obtain ⟨n, hn, rfl⟩ := Option.map_eq_some_iff.mp e2
      refine ⟨rfl, ⟨_, rfl, _, .inr n, rfl, sp.c0, ?_, ?_⟩⟩
      · exact sml (m := 12) (by have := ok.len; simp [md]; omega) (by decide)
      · have z := sp.put0 (o' := .dK (putK (md (S.order.take i) no0) (.inr n) (.int (no0 n))))
        rw [md_snoc ok.nd hn] at z
        rw [show V.int 0 = V.int (no0 n) from rfl, md_snoc ok.nd hn]
        exact z
    rintro H6 a6
    rw [List.take_of_length_le (by simp)] at a6
    refine ⟨_, rfl, _, _, _, _, rfl, a6.c1, T.cl_HouseBoard, T.t_HouseBoard_merges, (by simp), ?_⟩
    have t6 := a6.swap.put0 (o' := bo6 K dx su r d u F G)
    refine q _ r d u F G (t6.perm (.cons _ ?_))
    exact (List.reverse_perm [(G, HO.dK (md S.order no0)), (F, HO.lst (List.replicate 8 (.bl false))), (u, HO.dK (bd S.order no)), (d, HO.dK (bd S.order no)), (r, HO.dK (bd S.order no))]).append_right M
theorem permN {α : Type} (x pl ow ri fa nu r d u f g : α) (M : List α) : (r :: d :: u :: f :: g :: x :: pl :: ow :: ri :: fa :: nu :: M).Perm (x :: nu :: fa :: ri :: ow :: pl :: r :: d :: u :: f :: g :: M) := by
  have h1 := List.reverse_perm [nu, fa, ri, ow, pl]
  have h2 : (r :: d :: u :: f :: g :: x :: ([pl, ow, ri, fa, nu] ++ M)).Perm (r :: d :: u :: f :: g :: x :: ([nu, fa, ri, ow, pl] ++ M)) := ((((((h1.append_right M).cons x).cons g).cons f).cons u).cons d).cons r
  have h3 : ([r, d, u, f, g] ++ ([x, nu, fa, ri, ow, pl] ++ M)).Perm ([x, nu, fa, ri, ow, pl] ++ ([r, d, u, f, g] ++ M)) := List.perm_append_comm_assoc _ _ _
  exact h2.trans h3
abbrev N_HouseBoard_init : List Str := ["self", "setup", "__class__", "name"]
theorem sc_HouseBoard_init : NScope N_HouseBoard_init ["self", "setup"] ["__class__"] (C8.fnScope s_HouseBoard_init) := nscope_by (by decide +kernel)
theorem ok_HouseBoard_init {fd : FuncData} (T : Txt K mg) (F : FunS K (pF P) "__init__" "HouseBoard.__init__" (C8.fnArgs s_HouseBoard_init) (C8.fnBody s_HouseBoard_init) (C8.fnScope s_HouseBoard_init) [] [] (He.ma K (aC "HouseBoard" K) "__init__") (aC "HouseBoard" K) fd) (hP : ProgOk P) (c_super : BFn P w K mg base 3 (He.ma K (aC "Board" K) "__init__") (sp_Board_init K)) (c_order : FnP P w K mg base 1 (prA "Setup" "order" K) (sp_Setup_order K)) :
    C8.Mak P w K mg base 5 "HouseBoard" (aC "HouseBoard" K) (sp_HouseBoard_init K) [] := by
  refine ⟨_, fd, ["self", "setup"], [], T.mk_HouseBoard, fnM F (beq_self_eq_true _) sc_HouseBoard_init T.n_super hP.top (by decide +kernel) (by decide +kernel) (by decide +kernel) ⟨_, rfl, rfl⟩ (hb_cls T) (fun vs H Q E h => ?_) (fun cc cda A outer s s1 H vs Q E T2 hr h I => ?_), T.g_HouseBoard, bindsS F fun _ _ _ _ _ _ us hl => match us, hl with | [_, _], _ => rfl, .nil⟩
  · obtain ⟨_, _, _, _, _, _, rfl, _⟩ := h
    rfl
  · have nd := sc_HouseBoard_init.nd
    have hu := hu_of hr
    obtain ⟨x, dx, su, S, K0, M, rfl, sp, hS, ok, q⟩ := h
    obtain ⟨p, hpo⟩ := T.p_Setup_order
    refine wp_supX (Eb := C8.E0) T2 (hb_sup T T.sm_init T.mk_Board.fn c_super.fi) rfl rfl c_super.r (hr.mono (by decide)) C8.pass0 (pa_cons (pv 1) pa_nil) (pss_cons (ps_fld (pv 0) pe_int rfl)
  (pss_cons (ps_fld (pv 0) (pe_dc (own := [("name", 3)]) rfl nd (pi_tup (C_prop hpo T.cl_Setup c_order hr (by decide) (pv 1))) (blkOk_by (own := [("name", 3)]) (N := N_HouseBoard_init) (sc := (C8.fnScope s_HouseBoard_init)) (by decide +kernel)) (fun _ _ _ _ _ => (pg_name (i := 3) nd rfl (Or.inl rfl))) (fun _ _ _ _ _ => pts_nil) (fun _ _ _ _ _ => (pv 3)) (fun _ _ _ _ _ => pe_non)) rfl)
  (pss_cons (ps_fld (pv 0) (pe_dc (own := [("name", 3)]) rfl nd (pi_tup (C_prop hpo T.cl_Setup c_order hr (by decide) (pv 1))) (blkOk_by (own := [("name", 3)]) (N := N_HouseBoard_init) (sc := (C8.fnScope s_HouseBoard_init)) (by decide +kernel)) (fun _ _ _ _ _ => (pg_name (i := 3) nd rfl (Or.inl rfl))) (fun _ _ _ _ _ => pts_nil) (fun _ _ _ _ _ => (pv 3)) (fun _ _ _ _ _ => pe_non)) rfl)
  (pss_cons (ps_fld (pv 0) (pe_lst pa_nil) rfl)
  (pss_cons (ps_fld (pv 0) (pe_lst pa_nil) rfl)
  (pss_one (ps_fld (pv 0) (pe_dc (own := [("name", 3)]) rfl nd (pi_tup (C_prop hpo T.cl_Setup c_order hr (by decide) (pv 1))) (blkOk_by (own := [("name", 3)]) (N := N_HouseBoard_init) (sc := (C8.fnScope s_HouseBoard_init)) (by decide +kernel)) (fun _ _ _ _ _ => (pg_name (i := 3) nd rfl (Or.inl rfl))) (fun _ _ _ _ _ => pts_nil) (fun _ _ _ _ _ => (pv 3)) (fun _ _ _ _ _ => pe_non)) rfl))))))) I ?_
    have hx := sp.c0
    obtain ⟨dx2, _, _, _, _, _, h3, _⟩ := hS.ex
    refine ⟨x, _, _, rfl, hx, _, rfl, x, dx, su, S, K0, M, rfl, sp, hS, ok, fun H1 r d u f g s0 => ?_⟩
    refine ⟨_, rfl, _, _, _, _, rfl, s0.c0, T.cl_HouseBoard, T.t_HouseBoard_tick, (by simp), ?_⟩
    have s1 := s0.put0 (o' := .ins (aC "HouseBoard" K) dx [("_setup", .ref su), ("_rung", .ref r), ("_disabled", .ref d), ("_under_way", .ref u), ("_flags", .ref f), ("_merges", .ref g), ("_tick", .int 0)])
    refine ⟨_, rfl, su, _, _, rfl, s1.ext _ _ h3, su, S, K0, rfl, hS, s1.ext, fun oapl hoapl => ?_⟩
    refine ⟨_, rfl, ⟨_, t_of (s1.ext _ _ hoapl)⟩, fun pl hD => ?_⟩
    refine dc_it (walk_tup (xs := S.order.map V.str)) (fun i H' => Sep K0 H' ((pl, .dK (od (S.order.take i) nof)) :: (x, .ins (aC "HouseBoard" K) dx [("_setup", .ref su), ("_rung", .ref r), ("_disabled", .ref d), ("_under_way", .ref u), ("_flags", .ref f), ("_merges", .ref g), ("_tick", .int 0)]) :: (r, .dK (bd S.order no)) :: (d, .dK (bd S.order no)) :: (u, .dK (bd S.order no)) :: (f, .lst (List.replicate 8 (.bl false))) :: (g, .dK (md S.order no0)) :: M)) (s1.own hD) ?_ ?_ ?_
    · rintro i H' _ sp
      exact t_of (sp.ext _ _ hoapl)
    · rintro i v H1 H2 hi sp ⟨rfl, e2⟩
      rw [List.getElem?_map] at e2
      obtain ⟨n, hn, rfl⟩ := Option.map_eq_some_iff.mp e2
      refine ⟨rfl, ⟨_, rfl, _, .inr n, rfl, sp.c0, ?_, ?_⟩⟩
      · exact sml (m := 12) (by have := ok.len; simp [od]; omega) (by decide)
      · rw [od_snoc' ok.nd hn]
        exact sp.put0
    rintro Hpl bpl
    rw [List.take_of_length_le (by simp)] at bpl
    refine ⟨_, rfl, _, _, _, _, rfl, bpl.c1, T.cl_HouseBoard, T.t_HouseBoard_places, (by simp), ?_⟩
    have spl := bpl.swap.put0 (o' := .ins (aC "HouseBoard" K) dx [("_setup", .ref su), ("_rung", .ref r), ("_disabled", .ref d), ("_under_way", .ref u), ("_flags", .ref f), ("_merges", .ref g), ("_tick", .int 0), ("_places", .ref pl)])
    refine ⟨_, rfl, su, _, _, rfl, spl.ext _ _ h3, su, S, K0, rfl, hS, spl.ext, fun oaow hoaow => ?_⟩
    refine ⟨_, rfl, ⟨_, t_of (spl.ext _ _ hoaow)⟩, fun ow hD => ?_⟩
    refine dc_it (walk_tup (xs := S.order.map V.str)) (fun i H' => Sep K0 H' ((ow, .dK (od (S.order.take i) nof)) :: (x, .ins (aC "HouseBoard" K) dx [("_setup", .ref su), ("_rung", .ref r), ("_disabled", .ref d), ("_under_way", .ref u), ("_flags", .ref f), ("_merges", .ref g), ("_tick", .int 0), ("_places", .ref pl)]) :: (pl, .dK (od S.order nof)) :: (r, .dK (bd S.order no)) :: (d, .dK (bd S.order no)) :: (u, .dK (bd S.order no)) :: (f, .lst (List.replicate 8 (.bl false))) :: (g, .dK (md S.order no0)) :: M)) (spl.own hD) ?_ ?_ ?_
    · rintro i H' _ sp
      exact t_of (sp.ext _ _ hoaow)
    · rintro i v H1 H2 hi sp ⟨rfl, e2⟩
      rw [List.getElem?_map] at e2
      obtain ⟨n, hn, rfl⟩ := Option.map_eq_some_iff.mp e2
      refine ⟨rfl, ⟨_, rfl, _, .inr n, rfl, sp.c0, ?_, ?_⟩⟩
      · exact sml (m := 12) (by have := ok.len; simp [od]; omega) (by decide)
      · rw [od_snoc' ok.nd hn]
        exact sp.put0
    rintro How bow
    rw [List.take_of_length_le (by simp)] at bow
    refine ⟨_, rfl, _, _, _, _, rfl, bow.c1, T.cl_HouseBoard, T.t_HouseBoard_owners, (by simp), ?_⟩
    have sow := bow.swap.put0 (o' := .ins (aC "HouseBoard" K) dx [("_setup", .ref su), ("_rung", .ref r), ("_disabled", .ref d), ("_under_way", .ref u), ("_flags", .ref f), ("_merges", .ref g), ("_tick", .int 0), ("_places", .ref pl), ("_owners", .ref ow)])
    refine ⟨by simp, fun ri hri => ?_⟩
    have ari := (sow.own (o := .lst []) hri).swap
    refine ⟨_, rfl, _, _, _, _, rfl, ari.c0, T.cl_HouseBoard, T.t_HouseBoard_rings, (by simp), ?_⟩
    have sri := ari.put0 (o' := .ins (aC "HouseBoard" K) dx [("_setup", .ref su), ("_rung", .ref r), ("_disabled", .ref d), ("_under_way", .ref u), ("_flags", .ref f), ("_merges", .ref g), ("_tick", .int 0), ("_places", .ref pl), ("_owners", .ref ow), ("_rings", .ref ri)])
    refine ⟨by simp, fun fa hfa => ?_⟩
    have afa := (sri.own (o := .lst []) hfa).swap
    refine ⟨_, rfl, _, _, _, _, rfl, afa.c0, T.cl_HouseBoard, T.t_HouseBoard_fates, (by simp), ?_⟩
    have sfa := afa.put0 (o' := .ins (aC "HouseBoard" K) dx [("_setup", .ref su), ("_rung", .ref r), ("_disabled", .ref d), ("_under_way", .ref u), ("_flags", .ref f), ("_merges", .ref g), ("_tick", .int 0), ("_places", .ref pl), ("_owners", .ref ow), ("_rings", .ref ri), ("_fates", .ref fa)])
    refine ⟨_, rfl, su, _, _, rfl, sfa.ext _ _ h3, su, S, K0, rfl, hS, sfa.ext, fun oanu hoanu => ?_⟩
    refine ⟨_, rfl, ⟨_, t_of (sfa.ext _ _ hoanu)⟩, fun nu hD => ?_⟩
    refine dc_it (walk_tup (xs := S.order.map V.str)) (fun i H' => Sep K0 H' ((nu, .dK (onn (S.order.take i) non)) :: (x, .ins (aC "HouseBoard" K) dx [("_setup", .ref su), ("_rung", .ref r), ("_disabled", .ref d), ("_under_way", .ref u), ("_flags", .ref f), ("_merges", .ref g), ("_tick", .int 0), ("_places", .ref pl), ("_owners", .ref ow), ("_rings", .ref ri), ("_fates", .ref fa)]) :: (fa, .lst []) :: (ri, .lst []) :: (ow, .dK (od S.order nof)) :: (pl, .dK (od S.order nof)) :: (r, .dK (bd S.order no)) :: (d, .dK (bd S.order no)) :: (u, .dK (bd S.order no)) :: (f, .lst (List.replicate 8 (.bl false))) :: (g, .dK (md S.order no0)) :: M)) (sfa.own hD) ?_ ?_ ?_
    · rintro i H' _ sp
      exact t_of (sp.ext _ _ hoanu)
    · rintro i v H1 H2 hi sp ⟨rfl, e2⟩
      rw [List.getElem?_map] at e2
      obtain ⟨n, hn, rfl⟩ := Option.map_eq_some_iff.mp e2
      refine ⟨rfl, ⟨_, rfl, _, .inr n, rfl, sp.c0, ?_, ?_⟩⟩
      · exact sml (m := 12) (by have := ok.len; simp [onn]; omega) (by decide)
      · rw [on_snoc' ok.nd hn]
        exact sp.put0
    rintro Hnu bnu
    rw [List.take_of_length_le (by simp)] at bnu
    refine ⟨_, rfl, _, _, _, _, rfl, bnu.c1, T.cl_HouseBoard, T.t_HouseBoard_numbers, (by simp), ?_⟩
    have snu := bnu.swap.put0 (o' := .ins (aC "HouseBoard" K) dx [("_setup", .ref su), ("_rung", .ref r), ("_disabled", .ref d), ("_under_way", .ref u), ("_flags", .ref f), ("_merges", .ref g), ("_tick", .int 0), ("_places", .ref pl), ("_owners", .ref ow), ("_rings", .ref ri), ("_fates", .ref fa), ("_numbers", .ref nu)])
    refine q _ ⟨su, x, dx, r, d, u, f, g, pl, ow, ri, fa, nu⟩ rfl rfl ⟨hS, ok, BdOk.new ok, [], [], .nil, .nil, ?_⟩
    have e1 : (bdS S).fl.map V.bl = List.replicate 8 (.bl false) := by unfold bdS; rw [List.map_replicate]
    unfold layB
    rw [e1]
    refine snu.perm ?_
    exact permN _ _ _ _ _ _ _ _ _ _ _ _
end
end Cb

namespace Cb
open PySem PySem.Spec PyProof.Rows L2
theorem wm_inj : ∀ {ws : List WorkD}, (ws.map (·.name)).Nodup → ∀ {a b : WorkD}, a ∈ ws → b ∈ ws → a.name = b.name → a = b
  | m :: ws, nd, a, b, ha, hb, e => by
    have n2 := List.nodup_cons.mp nd
    rcases List.mem_cons.mp ha with ea | ha
    · rcases List.mem_cons.mp hb with eb | hb
      · rw [ea, eb]
      · exact absurd (show m.name ∈ ws.map (·.name) by rw [← ea, e]; exact List.mem_map_of_mem hb) n2.1
    · rcases List.mem_cons.mp hb with eb | hb
      · exact absurd (show m.name ∈ ws.map (·.name) by rw [← eb, ← e]; exact List.mem_map_of_mem ha) n2.1
      · exact wm_inj n2.2 ha hb e
theorem work_find {ws : List WorkD} (nd : (ws.map (·.name)).Nodup) {l : WorkD} (h : l ∈ ws) : ws.find? (fun w => decide (w.name = l.name)) = some l := by
  cases e : ws.find? fun x => decide (x.name = l.name) with
  | none =>
    have := List.find?_eq_none.mp e l h
    simp at this
  | some x =>
    have h1 := List.mem_of_find?_eq_some e
    have h2 : x.name = l.name := of_decide_eq_true (List.find?_some (p := fun x : WorkD => decide (x.name = l.name)) e)
    rw [wm_inj nd h1 h h2]
theorem rankOf_eq {ws : List WorkD} (nd : (ws.map (·.name)).Nodup) {l : WorkD} (h : l ∈ ws) : rankOf ws l.name = l.rank := by
  unfold rankOf
  rw [work_find nd h]
  rfl
theorem lenOf_eq {ws : List WorkD} (nd : (ws.map (·.name)).Nodup) {l : WorkD} (h : l ∈ ws) : lenOf ws l.name = l.ticks := by
  unfold lenOf
  rw [work_find nd h]
  rfl

def jqI (K : PySem.W.Frag) (dj rk ln ro : Addr) : HO := .ins (aC "WorkQueue" K) dj [("_ranks", .ref rk), ("_lengths", .ref ln), ("_rows", .ref ro)]
structure JobsK (K0 : Hp) (rk ln : Addr) (ws : List WorkD) : Prop where
  r : K0 rk = some (.dK (wd ws (·.rank)))
  l : K0 ln = some (.dK (wd ws (·.ticks)))
  ok : WsOk ws
theorem JobsK.up {H H' : Hp} {rk ln : Addr} {ws : List WorkD} (e : Same H H') (h : JobsK H rk ln ws) : JobsK H' rk ln ws := ⟨e _ _ h.r, e _ _ h.l, h.ok⟩
def RowsIn (ws : List WorkD) (rows : List (Str × Int)) : Prop := ∀ r ∈ rows, ∃ w ∈ ws, w.name = r.1
theorem RowsOk.in {ws : List WorkD} {rows : List (Str × Int)} (h : RowsOk ws rows) : RowsIn ws rows := fun r m => by
  obtain ⟨w, hw, e, _⟩ := h r m
  exact ⟨w, hw, e⟩

theorem Sep.tail2 {K0 H : Hp} {L : List (Addr × HO)} {a b c : Addr × HO} (s : Sep K0 H (a :: b :: c :: L)) : Sep K0 H (b :: a :: L) := by
  have z := s.perm (M := c :: b :: a :: L) ((List.reverse_perm [a, b, c]).append_right L)
  exact z.tail
theorem sm6 {n : Nat} (h : n ≤ 1000000) : n < sizeLine := Nat.lt_of_le_of_lt h (by decide)
theorem bg6 {n : Nat} (h : n ≤ 1000000) : (n : Int) < 2 ^ 63 := by
  have : (2 : Int) ^ 63 = 9223372036854775808 := by decide
  omega
def sp_WorkQueue_init (K : PySem.W.Frag) : Sp := fun vs H Q _ => ∃ (x dx wa : Addr) (ws : List WorkD) (K0 : Hp) (M : List (Addr × HO)), vs = [.ref x, .ref wa] ∧ Sep K0 H ((x, .ins (aC "WorkQueue" K) dx []) :: M) ∧ WorksAt K K0 wa ws ∧ WsOk ws ∧
  ∀ K1 H' rk ln ro, Same K0 K1 → JobsK K1 rk ln ws → Sep K1 H' ((x, jqI K dx rk ln ro) :: (ro, .lst []) :: M) → Q .non H'
def sp_WorkQueue_rows (K : PySem.W.Frag) : Sp := fun vs H Q _ => ∃ (jo dj rk ln ro : Addr) (rv : List V), vs = [.ref jo] ∧ H jo = some (jqI K dj rk ln ro) ∧ H ro = some (.lst rv) ∧ rv.length ≤ 1000000 ∧
  ∀ p H', Same H H' → H p = none → H' p = some (.lst rv) → Q (.ref p) H'
def sp_WorkQueue_is_empty (K : PySem.W.Frag) : Sp := fun vs H Q _ => ∃ (jo dj rk ln ro : Addr) (rv : List V), vs = [.ref jo] ∧ H jo = some (jqI K dj rk ln ro) ∧ H ro = some (.lst rv) ∧ Q (.bl rv.isEmpty) H
def sp_WorkQueue_drop_rows (K : PySem.W.Frag) : Sp := fun vs H Q _ => ∃ (jo dj rk ln ro : Addr) (rv : List V) (K0 : Hp) (M : List (Addr × HO)), vs = [.ref jo] ∧ Sep K0 H ((jo, jqI K dj rk ln ro) :: (ro, .lst rv) :: M) ∧
  ∀ H' ro', Sep K0 H' ((jo, jqI K dj rk ln ro') :: (ro', .lst []) :: M) → Q .non H'
def sp_WorkQueue_put (K : PySem.W.Frag) : Sp := fun vs H Q _ => ∃ (jo dj rk ln ro : Addr) (ws : List WorkD) (rv : List V) (rows : List (Str × Int)) (l : WorkD) (x : Int) (K0 : Hp) (M : List (Addr × HO)), vs = [.ref jo, .str l.name, .int x] ∧ JobsK K0 rk ln ws ∧ RowsIn ws rows ∧ l ∈ ws ∧ Paired (RowAt K K0) rv rows ∧ rows.length ≤ 1000000 ∧ Sep K0 H ((jo, jqI K dj rk ln ro) :: (ro, .lst rv) :: M) ∧
  ∀ K1 H' rv', Same K0 K1 → Paired (RowAt K K1) rv' (putR ws rows l.name x) → Sep K1 H' ((jo, jqI K dj rk ln ro) :: (ro, .lst rv') :: M) → Q .non H'
def sp_WorkQueue_spend (K : PySem.W.Frag) : Sp := fun vs H Q _ => ∃ (jo dj rk ln ro : Addr) (ws : List WorkD) (rv : List V) (n : Str) (t : Int) (rows : List (Str × Int)) (K0 : Hp) (M : List (Addr × HO)), vs = [.ref jo] ∧ JobsK K0 rk ln ws ∧ RowsIn ws ((n, t) :: rows) ∧ Paired (RowAt K K0) rv ((n, t) :: rows) ∧ rows.length ≤ 1000000 ∧ Sep K0 H ((jo, jqI K dj rk ln ro) :: (ro, .lst rv) :: M) ∧
  (t + 1 < lenOf ws n → ∀ K1 H' rv', Same K0 K1 → Paired (RowAt K K1) rv' ((n, t + 1) :: rows) → Sep K1 H' ((jo, jqI K dj rk ln ro) :: (ro, .lst rv') :: M) → Q .non H') ∧
  (¬ t + 1 < lenOf ws n → ∀ H' rv', Paired (RowAt K K0) rv' rows → Sep K0 H' ((jo, jqI K dj rk ln ro) :: (ro, .lst rv') :: M) → Q (.str n) H')

section
variable {P : Program} {w : World} {K : PySem.W.Frag} {mg : Str → Option Value} {base : Heap}

abbrev N_WorkQueue_rows : List Str := ["self"]
theorem sc_WorkQueue_rows : FnScope N_WorkQueue_rows ["self"] (C8.fnScope s_WorkQueue_rows) := C8.fnScope_by (by decide +kernel)
theorem ok_WorkQueue_rows {fd : FuncData} (T : Txt K mg) (F : FunD K "rows" "WorkQueue.rows" (C8.fnArgs s_WorkQueue_rows) (C8.fnBody s_WorkQueue_rows) (C8.fnScope s_WorkQueue_rows) [] [] (He.ma K (aC "WorkQueue" K) "rows") fd) :
    C8.Met P w K mg base 1 (aC "WorkQueue" K) "rows" (sp_WorkQueue_rows K) [] := by
  refine C8.met0 T.cl_WorkQueue T.m_WorkQueue_rows (fun_c8 F) (F.bindsN fun _ _ _ _ _ _ us hl => match us, hl with | [_], _ => rfl) sc_WorkQueue_rows (fun vs H Q E h => ?_) (fun cdv A outer s H vs Q E hr h => ?_)
  · obtain ⟨_, _, _, _, _, _, rfl, _⟩ := h
    rfl
  · have nd := sc_WorkQueue_rows.nd
    have hu := hu_of hr
    obtain ⟨jo, dj, rk, ln, ro, rv, rfl, h1, hr2, hl, q⟩ := h
    refine ⟨_, (pss_one (ps_ret (pe_callTy call_list_of (by rfl) T.n_list (by decide +kernel) (pa_cons (pe_fld (pv 0) rfl) pa_nil)))), ?_⟩
    exact ⟨_, rfl, _, _, _, _, _, rfl, h1, T.cl_WorkQueue, T.t_WorkQueue_rows, rfl, _, _, rfl, .inl (l_of hr2), fun p hp => q p _ (same_new (Same.refl H) hp) hp upd_same⟩
abbrev N_WorkQueue_is_empty : List Str := ["self"]
theorem sc_WorkQueue_is_empty : FnScope N_WorkQueue_is_empty ["self"] (C8.fnScope s_WorkQueue_is_empty) := C8.fnScope_by (by decide +kernel)
theorem ok_WorkQueue_is_empty {fd : FuncData} (T : Txt K mg) (F : FunD K "is_empty" "WorkQueue.is_empty" (C8.fnArgs s_WorkQueue_is_empty) (C8.fnBody s_WorkQueue_is_empty) (C8.fnScope s_WorkQueue_is_empty) [] [] (He.ma K (aC "WorkQueue" K) "is_empty") fd) :
    C8.Met P w K mg base 1 (aC "WorkQueue" K) "is_empty" (sp_WorkQueue_is_empty K) [] := by
  refine C8.met0 T.cl_WorkQueue T.m_WorkQueue_is_empty (fun_c8 F) (F.bindsN fun _ _ _ _ _ _ us hl => match us, hl with | [_], _ => rfl) sc_WorkQueue_is_empty (fun vs H Q E h => ?_) (fun cdv A outer s H vs Q E hr h => ?_)
  · obtain ⟨_, _, _, _, _, _, rfl, _⟩ := h
    rfl
  · have nd := sc_WorkQueue_is_empty.nd
    have hu := hu_of hr
    obtain ⟨jo, dj, rk, ln, ro, rv, rfl, h1, hr2, q⟩ := h
    refine ⟨_, (pss_one (ps_ret (pe_notT (pe_fld (pv 0) rfl)))), ?_⟩
    exact ⟨_, rfl, _, _, _, _, _, rfl, h1, T.cl_WorkQueue, T.t_WorkQueue_rows, rfl, !rv.isEmpty, .inl ⟨_, l_of hr2, rfl⟩, by rw [Bool.not_not]; exact q⟩
abbrev N_WorkQueue_drop_rows : List Str := ["self"]
theorem sc_WorkQueue_drop_rows : FnScope N_WorkQueue_drop_rows ["self"] (C8.fnScope s_WorkQueue_drop_rows) := C8.fnScope_by (by decide +kernel)
theorem ok_WorkQueue_drop_rows {fd : FuncData} (T : Txt K mg) (F : FunD K "drop_rows" "WorkQueue.drop_rows" (C8.fnArgs s_WorkQueue_drop_rows) (C8.fnBody s_WorkQueue_drop_rows) (C8.fnScope s_WorkQueue_drop_rows) [] [] (He.ma K (aC "WorkQueue" K) "drop_rows") fd) :
    C8.Met P w K mg base 1 (aC "WorkQueue" K) "drop_rows" (sp_WorkQueue_drop_rows K) [] := by
  refine C8.met0 T.cl_WorkQueue T.m_WorkQueue_drop_rows (fun_c8 F) (F.bindsN fun _ _ _ _ _ _ us hl => match us, hl with | [_], _ => rfl) sc_WorkQueue_drop_rows (fun vs H Q E h => ?_) (fun cdv A outer s H vs Q E hr h => ?_)
  · obtain ⟨_, _, _, _, _, _, _, _, rfl, _⟩ := h
    rfl
  · have nd := sc_WorkQueue_drop_rows.nd
    have hu := hu_of hr
    obtain ⟨jo, dj, rk, ln, ro, rv, K0, M, rfl, sp, q⟩ := h
    refine ⟨_, (pss_one (ps_fld (pv 0) (pe_lst pa_nil) rfl)), ?_⟩
    refine ⟨by simp, fun ro2 hro => ?_⟩
    have t1 := (sp.own (o := .lst []) hro).swap
    refine ⟨_, rfl, _, _, _, _, rfl, t1.c0, T.cl_WorkQueue, T.t_WorkQueue_rows, (by simp), ?_⟩
    have t2 := t1.put0 (o' := jqI K dj rk ln ro2)
    exact q _ ro2 (t2.swap.tail2)
abbrev N_WorkQueue_init : List Str := ["self", "works", "work"]
theorem sc_WorkQueue_init : FnScope N_WorkQueue_init ["self", "works"] (C8.fnScope s_WorkQueue_init) := C8.fnScope_by (by decide +kernel)
theorem ok_WorkQueue_init {fd : FuncData} (T : Txt K mg) (F : FunD K "__init__" "WorkQueue.__init__" (C8.fnArgs s_WorkQueue_init) (C8.fnBody s_WorkQueue_init) (C8.fnScope s_WorkQueue_init) [] [] (He.ma K (aC "WorkQueue" K) "__init__") fd) :
    C8.Mak P w K mg base 1 "WorkQueue" (aC "WorkQueue" K) (sp_WorkQueue_init K) [] := by
  refine C8.mak0 (ds := []) T.mk_WorkQueue T.g_WorkQueue (fun_c8 F) (F.bindsN fun _ _ _ _ _ _ us hl => match us, hl with | [_, _], _ => rfl) .nil sc_WorkQueue_init (fun vs H Q E h => ?_) (fun cdv A outer s H vs Q E hr h => ?_)
  · obtain ⟨_, _, _, _, _, _, rfl, _⟩ := h
    rfl
  · have nd := sc_WorkQueue_init.nd
    have hu := hu_of hr
    obtain ⟨x, dx, wa, ws, K0, M, rfl, sp, hW, ok, q⟩ := h
    obtain ⟨xs, hs, hp⟩ := hW.ex
    have hlen := hp.length
    refine ⟨_, (pss_cons (ps_fld (pv 0) (pe_dc (own := [("work", 2)]) rfl nd (pi_tup (pv 1)) (blkOk_by (own := [("work", 2)]) (N := N_WorkQueue_init) (sc := (C8.fnScope s_WorkQueue_init)) (by decide +kernel)) (fun _ _ _ _ _ => (pg_name (i := 2) nd rfl (Or.inl rfl))) (fun _ _ _ _ _ => pts_nil) (fun _ _ _ _ _ => (pe_ix (ix_tup : IxR _ (rIxT K)) (pv 2) pe_int (fun _ _ => rfl))) (fun _ _ _ _ _ => (pe_ix (ix_tup : IxR _ (rIxT K)) (pv 2) pe_int (fun _ _ => rfl)))) rfl)
      (pss_cons (ps_fld (pv 0) (pe_dc (own := [("work", 2)]) rfl nd (pi_tup (pv 1)) (blkOk_by (own := [("work", 2)]) (N := N_WorkQueue_init) (sc := (C8.fnScope s_WorkQueue_init)) (by decide +kernel)) (fun _ _ _ _ _ => (pg_name (i := 2) nd rfl (Or.inl rfl))) (fun _ _ _ _ _ => pts_nil) (fun _ _ _ _ _ => (pe_ix (ix_tup : IxR _ (rIxT K)) (pv 2) pe_int (fun _ _ => rfl))) (fun _ _ _ _ _ => (pe_ix (ix_tup : IxR _ (rIxT K)) (pv 2) pe_int (fun _ _ => rfl)))) rfl)
      (pss_one (ps_fld (pv 0) (pe_lst pa_nil) rfl)))), ?_⟩
    refine ⟨_, rfl, _, rfl, ⟨_, Same.tup sp.ext hs⟩, fun rk hD => ?_⟩
    refine dc_it (walk_tup (xs := xs)) (fun i H' => Sep K0 H' ((rk, .dK (wd (ws.take i) (·.rank))) :: (x, .ins (aC "WorkQueue" K) dx []) :: M)) (sp.own hD) ?_ ?_ ?_
    · rintro i H' _ sp
      exact Same.tup sp.ext hs
    · rintro i v H1 H2 hi sp ⟨rfl, e2⟩
      obtain ⟨l, hl, hL⟩ := pget hp e2
      obtain ⟨c, rfl, hb⟩ := WorkAt.up sp.ext hL
      refine ⟨rfl, ⟨_, rfl, _, _, _, _, rfl, rfl, hb, rfl, _, rfl, _, _, _, _, rfl, rfl, hb, rfl, _, .inr l.name, rfl, sp.c0, ?_, ?_⟩⟩
      · exact sml (m := 12) (by have := ok.le; simp [wd]; omega) (by decide)
      · have z := sp.put0 (o' := .dK (putK (wd (ws.take i) (·.rank)) (.inr l.name) (.int l.rank)))
        rw [wd_snoc (f := (·.rank)) ok.nd hl] at z ⊢
        exact z
    rintro H0 a0
    rw [List.take_of_length_le (by omega)] at a0
    refine ⟨_, rfl, _, _, _, _, rfl, a0.c1, T.cl_WorkQueue, T.t_WorkQueue_ranks, (by simp), ?_⟩
    have t1 := a0.swap.put0 (o' := ((x, .ins (aC "WorkQueue" K) dx [("_ranks", .ref rk)]) : Addr × HO).2)
    refine ⟨_, rfl, _, rfl, ⟨_, Same.tup t1.ext hs⟩, fun ln hD => ?_⟩
    refine dc_it (walk_tup (xs := xs)) (fun i H' => Sep K0 H' ((ln, .dK (wd (ws.take i) (·.ticks))) :: (x, .ins (aC "WorkQueue" K) dx [("_ranks", .ref rk)]) :: (rk, .dK (wd ws (·.rank))) :: M)) (t1.own hD) ?_ ?_ ?_
    · rintro i H' _ sp
      exact Same.tup sp.ext hs
    · rintro i v H1 H2 hi sp ⟨rfl, e2⟩
      obtain ⟨l, hl, hL⟩ := pget hp e2
      obtain ⟨c, rfl, hb⟩ := WorkAt.up sp.ext hL
      refine ⟨rfl, ⟨_, rfl, _, _, _, _, rfl, rfl, hb, rfl, _, rfl, _, _, _, _, rfl, rfl, hb, rfl, _, .inr l.name, rfl, sp.c0, ?_, ?_⟩⟩
      · exact sml (m := 12) (by have := ok.le; simp [wd]; omega) (by decide)
      · have z := sp.put0 (o' := .dK (putK (wd (ws.take i) (·.ticks)) (.inr l.name) (.int l.ticks)))
        rw [wd_snoc (f := (·.ticks)) ok.nd hl] at z ⊢
        exact z
    rintro H1 a1
    rw [List.take_of_length_le (by omega)] at a1
    refine ⟨_, rfl, _, _, _, _, rfl, a1.c1, T.cl_WorkQueue, T.t_WorkQueue_lengths, (by simp), ?_⟩
    have t2 := a1.swap.put0 (o' := ((x, .ins (aC "WorkQueue" K) dx [("_ranks", .ref rk), ("_lengths", .ref ln)]) : Addr × HO).2)
    refine ⟨by simp, fun ro hro => ?_⟩
    have t3 := t2.own (o := .lst []) hro
    refine ⟨_, rfl, _, _, _, _, rfl, t3.c1, T.cl_WorkQueue, T.t_WorkQueue_rows, (by simp), ?_⟩
    have t4 := t3.swap.put0 (o' := ((x, .ins (aC "WorkQueue" K) dx [("_ranks", .ref rk), ("_lengths", .ref ln), ("_rows", .ref ro)]) : Addr × HO).2)
    have z1 := t4.perm (M := (ln, .dK (wd ws (·.ticks))) :: (rk, .dK (wd ws (·.rank))) :: (x, jqI K dx rk ln ro) :: (ro, .lst []) :: M) (List.perm_append_comm (l₁ := [(ln, HO.dK (wd ws (·.ticks))), (rk, HO.dK (wd ws (·.rank)))]) (l₂ := [(x, jqI K dx rk ln ro), (ro, HO.lst [])]) |>.append_right M)
    have u1 := z1.freeze
    have n1 := z1.new0
    have x1 : upd K0 ln (.dK (wd ws (·.ticks))) ln = some (.dK (wd ws (·.ticks))) := upd_same
    have u2 := u1.freeze
    have n2 := u1.new0
    exact q _ _ rk ln ro (Same.tr n1 n2) ⟨upd_same, n2 _ _ x1, ok⟩ u2
abbrev N_WorkQueue_put : List Str := ["self", "work", "ticks", "rank", "ahead", "name", "_"]
theorem sc_WorkQueue_put : FnScope N_WorkQueue_put ["self", "work", "ticks"] (C8.fnScope s_WorkQueue_put) := C8.fnScope_by (by decide +kernel)
theorem bind_WorkQueue_put {K : PySem.W.Frag} {f : Addr} {fd : FuncData} {dv : V} (F : FunD K "put" "WorkQueue.put" (C8.fnArgs s_WorkQueue_put) (C8.fnBody s_WorkQueue_put) (C8.fnScope s_WorkQueue_put) [dv] [] f fd) : L2.Binds K fd ["self", "work", "ticks"] [] := by
  obtain ⟨ds, hv, hb⟩ := F.binds1 (ps := ["self", "work", "ticks"]) 3 1 (by simp) rfl (fun T kV doc pm an cdv ct us its h1 h2 => match us, its, h1, h2 with | [_, _, _], [_], _, _ => ⟨_, rfl, rfl⟩)
  cases hv
  exact hb
theorem fnok_WorkQueue_put {fd : FuncData} (T : Txt K mg) (F : FunD K "put" "WorkQueue.put" (C8.fnArgs s_WorkQueue_put) (C8.fnBody s_WorkQueue_put) (C8.fnScope s_WorkQueue_put) [.int 0] [] (He.ma K (aC "WorkQueue" K) "put") fd) :
    FnOk P w K mg base C8.CX0 1 (He.ma K (aC "WorkQueue" K) "put") fd ["self", "work", "ticks"] (sp_WorkQueue_put K) := by
  refine C8.fn0 (fun_c8 F) sc_WorkQueue_put (fun vs H Q E h => ?_) (fun cdv A outer s H vs Q E hr h => ?_)
  · obtain ⟨_, _, _, _, _, _, _, _, _, _, _, _, rfl, _⟩ := h
    rfl
  · have nd := sc_WorkQueue_put.nd
    have hu := hu_of hr
    obtain ⟨jo, dj, rk, ln, ro, ws, rv, rows, l, x, K0, M, rfl, J, rin, hl, hp, hlen, sp, q⟩ := h
    refine ⟨_, (pss_cons (ps_if (PW.pt (pw_and (pt_cmpR op_eq (pv 2) pe_int (nomark _)) (pw_and1 (pt_cmpR (op_inD (hu65_of hr)) (pe_tup (pa_cons (pv 1) (pa_cons pe_int pa_nil))) (pe_fld (pv 0) rfl) (by rfl))))) (pss_one ps_retN) pss_nil)
      (pss_cons (ps_set (i := 3) nd rfl (Or.inr rfl) (pe_dget hu (pe_fld (pv 0) rfl) (pv 1) (fun _ _ => rfl)))
      (pss_cons (ps_setLc (i := 4) (own := [("name", 5), ("_", 6)]) rfl nd rfl rfl (sw_true rfl rfl rfl (by decide +kernel)) (pi_list (pe_fld (pv 0) rfl)) (blkOk_by (own := [("name", 5), ("_", 6)]) (N := N_WorkQueue_put) (sc := (C8.fnScope s_WorkQueue_put)) (by decide +kernel)) (fun _ _ _ _ _ => (pg_tup (n := 2) rfl (pgs_cons (pg_name (i := 5) nd rfl (Or.inl rfl)) (pgs_cons (pg_name (i := 6) nd rfl (Or.inl rfl)) pgs_nil)) : PG _ _ (gTup K 2 _))) (fun _ _ _ _ _ => (pts_one (pt_cmpR op_ge (pe_dget hu (pe_fld (pv 0) rfl : PE _ _ (tFld K _ _)) (pv 5) (fun _ _ => rfl)) (pv 3) (nomark _)))) (fun _ _ _ _ _ => (pv 5)))
      (pss_one (ps_expr (pe_bm PySem.F.plainAttrs_list PySem.F.slot_list_insert PySem.F.type_list_insert mt_insert (pe_fld (pv 0) rfl) (pa_cons (pe_callB call_len_seq (by rfl) T.n_len (by decide +kernel) (pa_cons (pv 4) pa_nil)) (pa_cons (pe_tup (pa_cons (pv 1) (pa_cons (pv 2) pa_nil))) pa_nil)))))))), ?_⟩
    have hlen2 := hp.length
    have nmo : nameOk l.name := (J.ok.ok l hl).nm
    have rno : ∀ r ∈ rows, nameOk r.1 := fun r m => by
      obtain ⟨w, hw, e⟩ := rin r m
      exact e ▸ (J.ok.ok w hw).nm
    by_cases hx : x = 0
    · subst hx
      refine ⟨_, rfl, rfl, true, rfl, iteT ?_⟩
      refine ⟨_, rfl, small8 (by simp), fun t ht => ?_⟩
      have sp1 := sp.drop (o := .tup [.str l.name, .int 0]) ht
      have h1 := sp1.c0
      refine ⟨_, rfl, _, _, _, _, _, rfl, h1, T.cl_WorkQueue, T.t_WorkQueue_rows, rfl, pd (l.name, 0), rows.map pd, .tup (t_of upd_same) (.cons (.str _) (.cons (.int _) .nil)), .lst (l_of sp1.c1) (rows_dp (hp.mono fun _ _ z => RowAt.up sp1.ext z)), pd_sh1 nmo, pd_sh rno, decide ((l.name, 0) ∈ rows), congrArg V.bl (any_pd rows _), ?_⟩
      by_cases hm : (l.name, 0) ∈ rows
      · rw [decide_eq_true hm]
        refine iteT (q K0 _ rv (Same.refl _) ?_ sp1)
        unfold putR
        rw [if_pos ⟨rfl, hm⟩]
        exact hp
      rw [decide_eq_false hm]
      refine iteF ?_
      have hno : ¬ ((0 : Int) = 0 ∧ (l.name, 0) ∈ rows) := fun z => hm z.2
      refine ⟨_, rfl, _, _, _, _, _, rfl, h1, T.cl_WorkQueue, T.t_WorkQueue_ranks, rfl, _, rfl, rk, .int l.rank, rfl, wd_at (f := (·.rank)) J.ok.nd hl ▸ DGet.k (k := .inr l.name) (sp1.ext _ _ J.r), ?_⟩
      refine ⟨_, rfl, _, _, _, _, _, rfl, h1, T.cl_WorkQueue, T.t_WorkQueue_rows, rfl, _, rfl, ⟨_, l_of sp1.c1⟩, fun D hD => ?_⟩
      refine lc_it (walk_list (xs := rv)) (fun i H' => ∃ acc, acc.length = ((rows.take i).filter fun r => decide (rankOf ws l.name ≤ rankOf ws r.1)).length ∧ Sep K0 H' ((D, .lst acc) :: (jo, jqI K dj rk ln ro) :: (ro, .lst rv) :: M)) ⟨[], rfl, sp1.own hD⟩ ?_ ?_ ?_
      · rintro i H' _ ⟨_, _, sp⟩
        exact l_of sp.c2
      · rintro i v H1 H2 hi ⟨acc, ha, sp⟩ ⟨rfl, e2⟩
        obtain ⟨r, hr3, c, rfl, hc⟩ := pget hp e2
        obtain ⟨w, hw, ew⟩ := rin r (List.mem_of_getElem? hr3)
        have g1 := sp.c1
        refine ⟨_, _, rfl, Same.tup sp.ext hc, rfl, _, _, rfl, _, _, rfl, rfl, rfl, ?_⟩
        refine ⟨_, rfl, _, _, _, _, _, rfl, g1, T.cl_WorkQueue, T.t_WorkQueue_ranks, rfl, _, rfl, rk, .int w.rank, rfl, ?_, _, rfl, _, _, rfl, rfl, decide (l.rank ≤ w.rank), rfl, ?_⟩
        · rw [← ew]
          exact wd_at (f := (·.rank)) J.ok.nd hw ▸ DGet.k (k := .inr w.name) (sp.ext _ _ J.r)
        · have el := List.length_filter_le (fun r : Str × Int => decide (rankOf ws l.name ≤ rankOf ws r.1)) (rows.take i)
          rw [List.length_take] at el
          rw [filter_snoc (fun r : Str × Int => decide (rankOf ws l.name ≤ rankOf ws r.1)) hr3]
          have er : decide (rankOf ws l.name ≤ rankOf ws r.1) = decide (l.rank ≤ w.rank) := by rw [rankOf_eq J.ok.nd hl, ← ew, rankOf_eq J.ok.nd hw]
          rw [er]
          cases decide (l.rank ≤ w.rank) with
          | true => exact iteT ⟨_, rfl, _, sp.c0, sm6 (by omega), _, by rw [if_pos rfl, List.length_append, List.length_append, ha]; rfl, sp.put0⟩
          | false => exact iteF ⟨_, by rw [if_neg (by simp), List.append_nil]; exact ha, sp⟩
      rintro H3 ⟨acc, ha, sp3⟩
      rw [List.take_of_length_le (Nat.le_of_eq hlen2.symm)] at ha
      have hal := List.length_filter_le (fun r : Str × Int => decide (rankOf ws l.name ≤ rankOf ws r.1)) rows
      have g1 := sp3.c1
      refine ⟨_, rfl, _, _, _, _, _, rfl, g1, T.cl_WorkQueue, T.t_WorkQueue_rows, rfl, .inl ⟨rfl, _, .inl (.inl sp3.c2)⟩, _, rfl, _, _, rfl, .inl (l_of sp3.c0), _, rfl, _, rfl, small8 (by simp), fun t2 ht2 => ?_⟩
      have sp4 := sp3.tail.keep (o := .tup [.str l.name, .int 0]) ht2
      have g := sp3.newk (o := .tup [.str l.name, .int 0]) ht2
      refine ⟨_, _, _, _, rfl, rfl, sp4.c1, sm6 (by omega), by omega, bg6 (by omega), ?_⟩
      refine q _ _ _ g ?_ sp4.put1
      unfold putR
      rw [if_neg hno, Int.toNat_natCast, ha]
      have hp2 := hp.mono fun _ _ z => RowAt.up g z
      exact papp (pdrop hp2 _) (papp (.cons ⟨t2, rfl, t_of upd_same⟩ .nil) (ptake hp2 _))
    · refine ⟨_, rfl, rfl, false, congrArg V.bl (decide_eq_false fun z => hx (V.int.inj z)), iteF ?_⟩
      refine iteF ?_
      have sp1 := sp
      have h1 := sp1.c0
      have hno : ¬ (x = 0 ∧ (l.name, 0) ∈ rows) := fun z => hx z.1
      refine ⟨_, rfl, _, _, _, _, _, rfl, h1, T.cl_WorkQueue, T.t_WorkQueue_ranks, rfl, _, rfl, rk, .int l.rank, rfl, wd_at (f := (·.rank)) J.ok.nd hl ▸ DGet.k (k := .inr l.name) (sp1.ext _ _ J.r), ?_⟩
      refine ⟨_, rfl, _, _, _, _, _, rfl, h1, T.cl_WorkQueue, T.t_WorkQueue_rows, rfl, _, rfl, ⟨_, l_of sp1.c1⟩, fun D hD => ?_⟩
      refine lc_it (walk_list (xs := rv)) (fun i H' => ∃ acc, acc.length = ((rows.take i).filter fun r => decide (rankOf ws l.name ≤ rankOf ws r.1)).length ∧ Sep K0 H' ((D, .lst acc) :: (jo, jqI K dj rk ln ro) :: (ro, .lst rv) :: M)) ⟨[], rfl, sp1.own hD⟩ ?_ ?_ ?_
      · rintro i H' _ ⟨_, _, sp⟩
        exact l_of sp.c2
      · rintro i v H1 H2 hi ⟨acc, ha, sp⟩ ⟨rfl, e2⟩
        obtain ⟨r, hr3, c, rfl, hc⟩ := pget hp e2
        obtain ⟨w, hw, ew⟩ := rin r (List.mem_of_getElem? hr3)
        have g1 := sp.c1
        refine ⟨_, _, rfl, Same.tup sp.ext hc, rfl, _, _, rfl, _, _, rfl, rfl, rfl, ?_⟩
        refine ⟨_, rfl, _, _, _, _, _, rfl, g1, T.cl_WorkQueue, T.t_WorkQueue_ranks, rfl, _, rfl, rk, .int w.rank, rfl, ?_, _, rfl, _, _, rfl, rfl, decide (l.rank ≤ w.rank), rfl, ?_⟩
        · rw [← ew]
          exact wd_at (f := (·.rank)) J.ok.nd hw ▸ DGet.k (k := .inr w.name) (sp.ext _ _ J.r)
        · have el := List.length_filter_le (fun r : Str × Int => decide (rankOf ws l.name ≤ rankOf ws r.1)) (rows.take i)
          rw [List.length_take] at el
          rw [filter_snoc (fun r : Str × Int => decide (rankOf ws l.name ≤ rankOf ws r.1)) hr3]
          have er : decide (rankOf ws l.name ≤ rankOf ws r.1) = decide (l.rank ≤ w.rank) := by rw [rankOf_eq J.ok.nd hl, ← ew, rankOf_eq J.ok.nd hw]
          rw [er]
          cases decide (l.rank ≤ w.rank) with
          | true => exact iteT ⟨_, rfl, _, sp.c0, sm6 (by omega), _, by rw [if_pos rfl, List.length_append, List.length_append, ha]; rfl, sp.put0⟩
          | false => exact iteF ⟨_, by rw [if_neg (by simp), List.append_nil]; exact ha, sp⟩
      rintro H3 ⟨acc, ha, sp3⟩
      rw [List.take_of_length_le (Nat.le_of_eq hlen2.symm)] at ha
      have hal := List.length_filter_le (fun r : Str × Int => decide (rankOf ws l.name ≤ rankOf ws r.1)) rows
      have g1 := sp3.c1
      refine ⟨_, rfl, _, _, _, _, _, rfl, g1, T.cl_WorkQueue, T.t_WorkQueue_rows, rfl, .inl ⟨rfl, _, .inl (.inl sp3.c2)⟩, _, rfl, _, _, rfl, .inl (l_of sp3.c0), _, rfl, _, rfl, small8 (by simp), fun t2 ht2 => ?_⟩
      have sp4 := sp3.tail.keep (o := .tup [.str l.name, .int x]) ht2
      have g := sp3.newk (o := .tup [.str l.name, .int x]) ht2
      refine ⟨_, _, _, _, rfl, rfl, sp4.c1, sm6 (by omega), by omega, bg6 (by omega), ?_⟩
      refine q _ _ _ g ?_ sp4.put1
      unfold putR
      rw [if_neg hno, Int.toNat_natCast, ha]
      have hp2 := hp.mono fun _ _ z => RowAt.up g z
      exact papp (pdrop hp2 _) (papp (.cons ⟨t2, rfl, t_of upd_same⟩ .nil) (ptake hp2 _))
theorem ok_WorkQueue_put {fd : FuncData} (T : Txt K mg) (F : FunD K "put" "WorkQueue.put" (C8.fnArgs s_WorkQueue_put) (C8.fnBody s_WorkQueue_put) (C8.fnScope s_WorkQueue_put) [.int 0] [] (He.ma K (aC "WorkQueue" K) "put") fd) :
    C8.Met P w K mg base 1 (aC "WorkQueue" K) "put" (sp_WorkQueue_put K) [] := by
  exact ⟨_, fd, _, [], T.cl_WorkQueue, T.m_WorkQueue_put, fnok_WorkQueue_put T  F, bind_WorkQueue_put F, .nil⟩
theorem ok_WorkQueue_put1 {fd : FuncData} (T : Txt K mg) (F : FunD K "put" "WorkQueue.put" (C8.fnArgs s_WorkQueue_put) (C8.fnBody s_WorkQueue_put) (C8.fnScope s_WorkQueue_put) [.int 0] [] (He.ma K (aC "WorkQueue" K) "put") fd) :
    C8.Met P w K mg base 1 (aC "WorkQueue" K) "put" (sp_WorkQueue_put K) [.int 0] := by
  obtain ⟨ds, hv, hb⟩ := F.binds1 (ps := ["self", "work", "ticks"]) 2 0 (by simp) rfl (fun T kV doc pm an cdv ct us its h1 h2 => match us, its, h1, h2 with | [_, _], [_], _, _ => ⟨_, rfl, rfl⟩)
  exact ⟨_, fd, _, ds, T.cl_WorkQueue, T.m_WorkQueue_put, fnok_WorkQueue_put T  F, hb, hv⟩
abbrev N_WorkQueue_spend : List Str := ["self", "work", "ticks"]
theorem sc_WorkQueue_spend : FnScope N_WorkQueue_spend ["self"] (C8.fnScope s_WorkQueue_spend) := C8.fnScope_by (by decide +kernel)
theorem ok_WorkQueue_spend {fd : FuncData} (T : Txt K mg) (F : FunD K "spend" "WorkQueue.spend" (C8.fnArgs s_WorkQueue_spend) (C8.fnBody s_WorkQueue_spend) (C8.fnScope s_WorkQueue_spend) [] [] (He.ma K (aC "WorkQueue" K) "spend") fd) :
    C8.Met P w K mg base 1 (aC "WorkQueue" K) "spend" (sp_WorkQueue_spend K) [] := by
  refine C8.met0 T.cl_WorkQueue T.m_WorkQueue_spend (fun_c8 F) (F.bindsN fun _ _ _ _ _ _ us hl => match us, hl with | [_], _ => rfl) sc_WorkQueue_spend (fun vs H Q E h => ?_) (fun cdv A outer s H vs Q E hr h => ?_)
  · obtain ⟨_, _, _, _, _, _, _, _, _, _, _, _, rfl, _⟩ := h
    rfl
  · have nd := sc_WorkQueue_spend.nd
    have hu := hu_of hr
    obtain ⟨jo, dj, rk, ln, ro, ws, rv, n, t, rows, K0, M, rfl, J, rin, hp, hlen, sp, q1, q2⟩ := h
    refine ⟨_, (pss_cons (ps_asg (pe_ix ix_list (pe_fld (pv 0) rfl) pe_int (fun _ _ => rfl)) (pg_tup rfl (pgs_cons (pg_name (i := 1) nd rfl (Or.inl rfl)) (pgs_cons (pg_name (i := 2) nd rfl (Or.inl rfl)) pgs_nil))))
      (pss_cons (ps_if (pt_cmpR op_lt (pe_op op_add (pv 2) pe_int) (pe_dget hu (pe_fld (pv 0) rfl) (pv 1) (fun _ _ => rfl)) (nomark _)) (pss_cons (ps_asg (pe_tup (pa_cons (pv 1) (pa_cons (pe_op op_add (pv 2) pe_int) pa_nil))) (pg_sub (pe_fld (pv 0) rfl) pe_int set_list))
      (pss_one (ps_ret pe_non))) pss_nil)
      (pss_cons (ps_expr (pe_bm PySem.F.plainAttrs_list PySem.F.slot_list_pop PySem.F.type_list_pop mt_popAt (pe_fld (pv 0) rfl) (pa_cons pe_int pa_nil)))
      (pss_one (ps_ret (pv 1)))))), ?_⟩
    have h1 := sp.c0
    have h3 := sp.ext _ _ J.l
    obtain ⟨w, hw, ew⟩ := rin (n, t) List.mem_cons_self
    have el : lenOf ws n = w.ticks := by rw [show n = w.name from ew.symm]; exact lenOf_eq J.ok.nd hw
    rw [el] at q1 q2
    cases hp with
    | @cons v _ vs _ hv hvs =>
    obtain ⟨c, rfl, hc⟩ := hv
    refine ⟨_, rfl, _, _, _, _, _, rfl, h1, T.cl_WorkQueue, T.t_WorkQueue_rows, rfl, _, _, _, _, rfl, rfl, l_of sp.c1, atIn (n := 0) rfl, ?_⟩
    refine ⟨_, _, rfl, Same.tup sp.ext hc, rfl, _, _, rfl, _, _, rfl, rfl, ?_⟩
    refine ⟨_, rfl, _, _, rfl, rfl, _, rfl, _, _, _, _, _, rfl, h1, T.cl_WorkQueue, T.t_WorkQueue_lengths, rfl, _, rfl, ln, .int w.ticks, rfl, ?_, _, _, rfl, rfl, decide (t + 1 < w.ticks), rfl, ?_⟩
    · show DGet H ln (V.str n) _
      rw [show n = w.name from ew.symm]
      exact wd_at (f := (·.ticks)) J.ok.nd hw ▸ DGet.k (k := .inr w.name) h3
    by_cases hlt : t + 1 < w.ticks
    · rw [decide_eq_true hlt]
      refine iteT ⟨_, rfl, _, rfl, _, _, rfl, rfl, small8 (by simp), fun t2 ht2 => ?_⟩
      have sp4 := sp.keep (o := .tup [.str n, .int (t + 1)]) ht2
      have g := sp.newk (o := .tup [.str n, .int (t + 1)]) ht2
      have h4 := sp4.c0
      refine ⟨_, rfl, _, _, _, _, _, rfl, h4, T.cl_WorkQueue, T.t_WorkQueue_rows, rfl, _, _, _, 0, rfl, rfl, sp4.c1, by simp [ixN], ?_⟩
      exact q1 hlt _ _ _ g (.cons ⟨t2, rfl, t_of upd_same⟩ (hvs.mono fun _ _ z => RowAt.up g z)) sp4.put1
    · rw [decide_eq_false hlt]
      refine iteF ?_
      refine ⟨_, rfl, _, _, _, _, _, rfl, h1, T.cl_WorkQueue, T.t_WorkQueue_rows, rfl, .inl ⟨rfl, _, .inl (.inl sp.c1)⟩, _, _, _, 0, _, rfl, rfl, sp.c1, by decide, by decide, by simp [seqIndex?], rfl, ?_⟩
      exact ⟨_, rfl, q2 hlt _ _ hvs sp.put1⟩
end
end Cb

namespace Cb
open PySem PySem.Spec PyProof.Rows L2

structure AdP where
  pr : Addr
  dp : Addr
  st : Addr
  jo : Addr
  dj : Addr
  rk : Addr
  ln : Addr
  ro : Addr
  co : Addr
def CallAt (K : PySem.W.Frag) (H : Hp) (v : V) (c : CallD) : Prop := ∃ t, v = .ref t ∧ SqT K H t [.str c.line.name, .int (c.step : Nat), .int c.ticks, .int c.kept]
theorem CallAt.up {K : PySem.W.Frag} {H H' : Hp} {v : V} {r : CallD} (e : Same H H') (h : CallAt K H v r) : CallAt K H' v r := h.elim fun a h => ⟨a, h.1, Same.tup e h.2⟩
def EvAt (K : PySem.W.Frag) (H : Hp) (v : V) (e : Ev) : Prop := ∃ t, v = .ref t ∧ SqT K H t [.str e.word, .str e.name]
theorem EvAt.up {K : PySem.W.Frag} {H H' : Hp} {v : V} {r : Ev} (e : Same H H') (h : EvAt K H v r) : EvAt K H' v r := h.elim fun a h => ⟨a, h.1, Same.tup e h.2⟩
def prI (K : PySem.W.Frag) (A : AdB) (P : AdP) (bar : Int) : HO := .ins (aC "Processor" K) P.dp [("_setup", .ref A.su), ("_board", .ref A.bo), ("_bar", .int bar), ("_stack", .ref P.st), ("_jobs", .ref P.jo), ("_counts", .ref P.co)]
def layP (K : PySem.W.Frag) (A : AdB) (P : AdP) (p : PrD) (sv rv : List V) (M : List (Addr × HO)) : List (Addr × HO) :=
  (P.pr, prI K A P p.bar) :: (P.st, .lst sv) :: (P.jo, jqI K P.dj P.rk P.ln P.ro) :: (P.ro, .lst rv) :: (P.co, .lst [.int p.c0, .int p.c1, .int p.c2, .int p.c3]) :: M
structure Own (K : PySem.W.Frag) (A : AdB) (P : AdP) (S : SetD) (K0 H : Hp) (b : BdD) (p : PrD) (M : List (Addr × HO)) : Prop where
  fj : JobsK K0 P.rk P.ln S.ws
  ex : ∃ sv rv, Paired (CallAt K K0) sv p.stack ∧ Paired (RowAt K K0) rv p.rows ∧ OwnB K A S K0 H b (layP K A P p sv rv M)
section
variable {K : PySem.W.Frag} {A : AdB} {P : AdP} {S : SetD} {K0 K1 H H' : Hp} {b b' : BdD} {p p' : PrD} {M M' : List (Addr × HO)}
theorem Own.grow (h : Own K A P S K0 H b p M) (g : Same H H') : Own K A P S K0 H' b p M := by
  obtain ⟨sv, rv, h1, h2, h3⟩ := h.ex
  exact ⟨h.fj, sv, rv, h1, h2, h3.grow g⟩
/-- what a processor has, to be worked on; the board stays -/
theorem Own.lens (h : Own K A P S K0 H b p M) : ∃ sv rv L, Paired (CallAt K K0) sv p.stack ∧ Paired (RowAt K K0) rv p.rows ∧ OwnB K A S K0 H b (layP K A P p sv rv M) ∧ Sep K0 H (layP K A P p sv rv (M ++ L)) ∧
    ∀ {K1 H' : Hp} {p' : PrD} {sv' rv' : List V} {M' : List (Addr × HO)}, Same K0 K1 → Paired (CallAt K K1) sv' p'.stack → Paired (RowAt K K1) rv' p'.rows → Sep K1 H' (layP K A P p' sv' rv' (M' ++ L)) → Own K A P S K1 H' b p' M' := by
  obtain ⟨sv, rv, h1, h2, ob⟩ := h.ex
  obtain ⟨L, sp, bk⟩ := ob.lens
  exact ⟨sv, rv, L, h1, h2, ob, sp, fun {K1 H' p' sv' rv' M'} g a c s => ⟨JobsK.up g h.fj, sv', rv', a, c, bk K1 H' (layP K A P p' sv' rv' M') g s⟩⟩
theorem Own.ob (h : Own K A P S K0 H b p M) (g : Same K0 K1) {sv rv : List V} (h1 : Paired (CallAt K K1) sv p'.stack) (h2 : Paired (RowAt K K1) rv p'.rows) (o : OwnB K A S K1 H' b' (layP K A P p' sv rv M')) : Own K A P S K1 H' b' p' M' := ⟨JobsK.up g h.fj, sv, rv, h1, h2, o⟩
theorem Own.ok (h : Own K A P S K0 H b p M) : SetOk S := by
  obtain ⟨sv, rv, h1, h2, h3⟩ := h.ex
  exact h3.ok
theorem Own.bk (h : Own K A P S K0 H b p M) : BdOk S b := by
  obtain ⟨sv, rv, h1, h2, h3⟩ := h.ex
  exact h3.bk
theorem Own.ext (h : Own K A P S K0 H b p M) : Same K0 H := by
  obtain ⟨sv, rv, h1, h2, h3⟩ := h.ex
  exact h3.ext
theorem Own.prc (h : Own K A P S K0 H b p M) : H P.pr = some (prI K A P p.bar) := by
  obtain ⟨sv, rv, h1, h2, h3⟩ := h.ex
  exact h3.fr
end
section
variable {K0 H : Hp} {L : List (Addr × HO)} {a1 a2 a3 a4 a5 e j r : Addr × HO}
theorem Sep.upQ (s : Sep K0 H (a1 :: a2 :: j :: r :: L)) : Sep K0 H (j :: r :: a1 :: a2 :: L) := s.perm (List.perm_append_comm_assoc [j, r] [a1, a2] L)
theorem Sep.dnQ (s : Sep K0 H (j :: r :: a1 :: a2 :: L)) : Sep K0 H (a1 :: a2 :: j :: r :: L) := s.perm (List.perm_append_comm_assoc [a1, a2] [j, r] L)
theorem Sep.up5 (s : Sep K0 H (a1 :: a2 :: a3 :: a4 :: a5 :: e :: L)) : Sep K0 H (e :: a1 :: a2 :: a3 :: a4 :: a5 :: L) := s.perm (List.perm_middle (l₁ := [a1, a2, a3, a4, a5])).symm
theorem Sep.dn5 (s : Sep K0 H (e :: a1 :: a2 :: a3 :: a4 :: a5 :: L)) : Sep K0 H (a1 :: a2 :: a3 :: a4 :: a5 :: e :: L) := s.perm (List.perm_middle (l₁ := [a1, a2, a3, a4, a5]))
end
structure StOk (S : SetD) (c : CallD) : Prop where
  ln : c.line ∈ S.ls
  st : ∃ st, stepOf c = some st
theorem StOk.ok {S : SetD} {c : CallD} {st : SD} (h : StOk S c) (ok : SetOk S) (e : stepOf c = some st) : StepOk S.ls S.ws st := ok.all c.line h.ln st (List.mem_of_getElem? e)
theorem CallOk.stOk {S : SetD} {c : CallD} (h : CallOk S c) : StOk S c := ⟨h.ln, by
  rcases h.st with ⟨n, e, _⟩ | ⟨f, e, _⟩
  · exact ⟨_, e⟩
  · exact ⟨_, e⟩⟩

def sp_Processor_lets_by (K : PySem.W.Frag) : Sp := fun vs H Q _ => ∃ (A : AdB) (P : AdP) (S : SetD) (K0 : Hp) (b : BdD) (p : PrD) (M : List (Addr × HO)) (l : LineD), vs = [.ref P.pr, .str l.name] ∧ Own K A P S K0 H b p M ∧ l ∈ S.ls ∧ (∀ c ∈ p.stack, c.line ∈ S.ls) ∧ Q (.bl (decide (floorA p < l.rank))) H
def sp_Processor_present_step (K : PySem.W.Frag) : Sp := fun vs H Q _ => ∃ (A : AdB) (P : AdP) (S : SetD) (K0 : Hp) (b : BdD) (p : PrD) (M : List (Addr × HO)) (rest : List CallD) (c : CallD) (st : SD), vs = [.ref P.pr] ∧ Own K A P S K0 H b p M ∧ p.stack = rest ++ [c] ∧ c.line ∈ S.ls ∧ stepOf c = some st ∧ ∀ v H', Same H H' → StepAt K K0 v st → Q v H'
def sp_Processor_passes_flag (K : PySem.W.Frag) : Sp := fun vs H Q _ => ∃ (A : AdB) (P : AdP) (S : SetD) (K0 : Hp) (b : BdD) (p : PrD) (M : List (Addr × HO)), vs = [.ref P.pr] ∧ Own K A P S K0 H b p M ∧ (∀ c ∈ p.stack, StOk S c) ∧ ∀ H', Same H H' → Q (.bl (passes b p)) H'
def sp_Processor_takes_no_tick (K : PySem.W.Frag) : Sp := fun vs H Q _ => ∃ (A : AdB) (P : AdP) (S : SetD) (K0 : Hp) (b : BdD) (p : PrD) (M : List (Addr × HO)) (v : V) (st : SD), vs = [.ref P.pr, v] ∧ Own K A P S K0 H b p M ∧ StepAt K H v st ∧ StepOk S.ls S.ws st ∧ Q (.bl (takesNo b st)) H
def sp_Processor_act (K : PySem.W.Frag) : Sp := fun vs H Q _ => ∃ (A : AdB) (P : AdP) (S : SetD) (K0 : Hp) (b : BdD) (p : PrD) (M : List (Addr × HO)) (v : V) (st : SD), vs = [.ref P.pr, v] ∧ StepAt K K0 v st ∧ StepOk S.ls S.ws st ∧ takesNo b st = true ∧ Own K A P S K0 H b p M ∧ RowsIn S.ws p.rows ∧ p.rows.length ≤ 1000000 ∧ b.rg.length < 16000000 ∧
  ∀ K1 H', Same K0 K1 → Own K A P S K1 H' (actB b st) (actP S.ws p st) M → Q .non H'
theorem last_snoc {α : Type} {l : List α} {x : α} : (l ++ [x]).getLast? = some x := by simp
theorem floor_nil {p : PrD} (h : p.stack = []) : floorA p = p.bar := by unfold floorA; rw [h]; rfl
theorem floor_snoc {p : PrD} {r : List CallD} {c : CallD} (h : p.stack = r ++ [c]) : floorA p = if c.line.rank > p.bar then c.line.rank else p.bar := by unfold floorA; rw [h, last_snoc]
theorem passes_nil {b : BdD} {p : PrD} (h : p.stack = []) : passes b p = false := by unfold passes; rw [h]; rfl
def SD.upIn (b : BdD) : SD → Bool
  | .await f => b.fl.getD f false
  | _ => false
theorem passes_snoc {b : BdD} {p : PrD} {r : List CallD} {c : CallD} {st : SD} (h : p.stack = r ++ [c]) (hs : stepOf c = some st) : passes b p = st.upIn b := by
  unfold passes
  rw [h, last_snoc]
  simp only [hs]
  cases st <;> rfl

theorem actB_rg {b : BdD} {st : SD} : (actB b st).rg.length ≤ b.rg.length + 1 := by
  cases st with
  | ring n =>
    show (if b.lev n = true then b.rg else b.rg ++ [(b.tk, n)]).length ≤ _
    split
    · omega
    · simp
  | _ => exact Nat.le_add_right _ _
theorem flagB_len {b : BdD} {f : Nat} {v : Bool} : (flagB b f v).fl.length = b.fl.length := by show (b.fl.set f v).length = _; rw [List.length_set]
theorem ringB_fl {b : BdD} {n : Str} : (ringB b n).fl = b.fl := rfl
theorem actB_len {b : BdD} {st : SD} : (actB b st).fl.length = b.fl.length := by
  cases st <;> first | rfl | exact flagB_len

section
variable {P : Program} {w : World} {K : PySem.W.Frag} {mg : Str → Option Value} {base : Heap}

abbrev N_Processor_lets_by : List Str := ["self", "line", "floor"]
theorem sc_Processor_lets_by : FnScope N_Processor_lets_by ["self", "line"] (C8.fnScope s_Processor_lets_by) := C8.fnScope_by (by decide +kernel)
theorem ok_Processor_lets_by {fd : FuncData} (T : Txt K mg) (F : FunD K "_lets_by" "Processor._lets_by" (C8.fnArgs s_Processor_lets_by) (C8.fnBody s_Processor_lets_by) (C8.fnScope s_Processor_lets_by) [] [] (He.ma K (aC "Processor" K) "_lets_by") fd) (c_getitem : C8.Met P w K mg base 2 (aC "Setup" K) "__getitem__" (sp_Setup_getitem K) []) :
    C8.Met P w K mg base 4 (aC "Processor" K) "_lets_by" (sp_Processor_lets_by K) [] := by
  refine C8.met0 T.cl_Processor T.m_Processor_lets_by (fun_c8 F) (F.bindsN fun _ _ _ _ _ _ us hl => match us, hl with | [_, _], _ => rfl) sc_Processor_lets_by (fun vs H Q E h => ?_) (fun cdv A outer s H vs Q E hr h => ?_)
  · obtain ⟨_, _, _, _, _, _, _, _, rfl, _⟩ := h
    rfl
  · have nd := sc_Processor_lets_by.nd
    have hu := hu_of hr
    obtain ⟨A, P, S, K0, b, p, M, l, rfl, ow, hl, hc, q⟩ := h
    refine ⟨_, (pss_cons (ps_set (i := 2) nd rfl (Or.inl rfl) (pe_fld (pv 0) rfl))
      (pss_cons (ps_if (pt_truth (pe_fld (pv 0) rfl) (by intro _; rfl)) (pss_one (ps_set (i := 2) nd rfl (Or.inl rfl) (pe_callB (call_max2 rfl) (by rfl) T.n_max (by decide +kernel) (pa_cons (pv 2) (pa_cons (pe_ix ix_tup (C_ix T.m_Setup_getitem T.i_getitem c_getitem hr (by decide) (pe_fld (pv 0) rfl) (pe_ix ix_tup (pe_ix ix_list (pe_fld (pv 0) rfl) (pe_un un_neg pe_int) (fun _ _ => rfl)) pe_int (fun _ _ => rfl))) pe_int (fun _ _ => rfl)) pa_nil))))) pss_nil)
      (pss_one (ps_ret (pe_cmpR op_gt (pe_ix ix_tup (C_ix T.m_Setup_getitem T.i_getitem c_getitem hr (by decide) (pe_fld (pv 0) rfl) (pv 1)) pe_int (fun _ _ => rfl)) (pv 2) (nomark _)))))), ?_⟩
    obtain ⟨sv, rv, L, h1, h2, ob, sp, bk⟩ := ow.lens
    have hpr := sp.c0
    have B := ob.at_
    obtain ⟨dx2, _, _, _, _, _, h3, _⟩ := B.su.ex
    refine ⟨_, rfl, _, _, _, _, _, rfl, hpr, T.cl_Processor, T.t_Processor_bar, rfl, ?_⟩
    rcases List.eq_nil_or_concat p.stack with e1 | ⟨rest, c, e1⟩
    · rw [floor_nil e1] at q
      rw [e1] at h1
      cases h1
      refine ⟨_, rfl, _, _, _, _, _, rfl, hpr, T.cl_Processor, T.t_Processor_stack, rfl, false, .inl ⟨_, l_of sp.c1, rfl⟩, iteF ?_⟩
      refine ⟨_, rfl, _, _, _, _, _, rfl, hpr, T.cl_Processor, T.t_Processor_setup, rfl, _, rfl, A.su, dx2, _, rfl, h3, A.su, S, l, K0, rfl, ob.su, sp.ext, ow.ok, hl, fun v hv => ?_⟩
      obtain ⟨a, g1, hs1, rfl, h5, h6, h7⟩ := hv
      exact ⟨_, _, _, _, rfl, rfl, Same.tup sp.ext h5, rfl, _, rfl, _, _, rfl, rfl, q⟩
    · rw [List.concat_eq_append] at e1
      rw [floor_snoc e1] at q
      have h1' := h1
      rw [e1] at h1'
      obtain ⟨sv', v, e2, h4, t, rfl, ht⟩ := psnoc h1'
      have hlc := hc c (by rw [e1]; simp)
      have hc3 := sp.c1
      rw [e2] at hc3
      refine ⟨_, rfl, _, _, _, _, _, rfl, hpr, T.cl_Processor, T.t_Processor_stack, rfl, true, .inl ⟨_, l_of sp.c1, by rw [e2]; simp⟩, iteT ?_⟩
      refine ⟨_, rfl, _, rfl, _, _, _, _, _, rfl, hpr, T.cl_Processor, T.t_Processor_setup, rfl, _, rfl, _, _, _, _, _, rfl, hpr, T.cl_Processor, T.t_Processor_stack, rfl, _, rfl, _, _, _, _, rfl, rfl, l_of hc3, atIm, _, _, _, _, rfl, rfl, Same.tup sp.ext ht, rfl, A.su, dx2, _, rfl, h3, A.su, S, c.line, K0, rfl, ob.su, sp.ext, ow.ok, hlc, fun v hv => ?_⟩
      obtain ⟨a, g1, hs1, rfl, h5, h6, h7⟩ := hv
      refine ⟨_, _, _, _, rfl, rfl, Same.tup sp.ext h5, rfl, _, _, rfl, ?_⟩
      refine ⟨_, rfl, _, _, _, _, _, rfl, hpr, T.cl_Processor, T.t_Processor_setup, rfl, _, rfl, A.su, dx2, _, rfl, h3, A.su, S, l, K0, rfl, ob.su, sp.ext, ow.ok, hl, fun v hv => ?_⟩
      obtain ⟨a, g1, hs1, rfl, h5, h6, h7⟩ := hv
      exact ⟨_, _, _, _, rfl, rfl, Same.tup sp.ext h5, rfl, _, rfl, _, _, rfl, rfl, q⟩
abbrev N_Processor_present_step : List Str := ["self", "line", "step"]
theorem sc_Processor_present_step : FnScope N_Processor_present_step ["self"] (C8.fnScope s_Processor_present_step) := C8.fnScope_by (by decide +kernel)
theorem ok_Processor_present_step {fd : FuncData} (T : Txt K mg) (F : FunD K "_present_step" "Processor._present_step" (C8.fnArgs s_Processor_present_step) (C8.fnBody s_Processor_present_step) (C8.fnScope s_Processor_present_step) [] [] (He.ma K (aC "Processor" K) "_present_step") fd) (c_getitem : C8.Met P w K mg base 2 (aC "Setup" K) "__getitem__" (sp_Setup_getitem K) []) :
    C8.Met P w K mg base 4 (aC "Processor" K) "_present_step" (sp_Processor_present_step K) [] := by
  refine C8.met0 T.cl_Processor T.m_Processor_present_step (fun_c8 F) (F.bindsN fun _ _ _ _ _ _ us hl => match us, hl with | [_], _ => rfl) sc_Processor_present_step (fun vs H Q E h => ?_) (fun cdv A outer s H vs Q E hr h => ?_)
  · obtain ⟨_, _, _, _, _, _, _, _, _, _, rfl, _⟩ := h
    rfl
  · have nd := sc_Processor_present_step.nd
    have hu := hu_of hr
    obtain ⟨A, P, S, K0, b, p, M, rest, c, st, rfl, ow, hst, hl, hs, q⟩ := h
    refine ⟨_, (pss_cons (ps_asg (pe_slice sl_tup (pe_ix ix_list (pe_fld (pv 0) rfl) (pe_un un_neg pe_int) (fun _ _ => rfl)) po_none (po_some pe_int)) (pg_tup rfl (pgs_cons (pg_name (i := 1) nd rfl (Or.inl rfl)) (pgs_cons (pg_name (i := 2) nd rfl (Or.inl rfl)) pgs_nil))))
      (pss_one (ps_ret (pe_ix ix_tup (pe_ix ix_tup (C_ix T.m_Setup_getitem T.i_getitem c_getitem hr (by decide) (pe_fld (pv 0) rfl) (pv 1)) pe_int (fun _ _ => rfl)) (pv 2) (fun _ _ => rfl))))), ?_⟩
    obtain ⟨sv, rv, L, h1, h2, ob, sp, bk⟩ := ow.lens
    have hpr := sp.c0
    have B := ob.at_
    obtain ⟨dx2, _, _, _, _, _, h3, _⟩ := B.su.ex
    rw [hst] at h1
    obtain ⟨sv', v, rfl, h4, t, rfl, ht⟩ := psnoc h1
    refine ⟨_, rfl, _, _, _, _, _, rfl, hpr, T.cl_Processor, T.t_Processor_stack, rfl, _, rfl, _, _, _, _, rfl, rfl, l_of sp.c1, atIm, _, rfl, _, _, rfl, Same.tup sp.ext ht, by simp [HT.sIx], fun a hp => ?_⟩
    rw [cut2]
    have sp2 := sp.drop (o := .tup [.str c.line.name, .int (c.step : Nat)]) hp
    have g := same_new (o := .tup [.str c.line.name, .int (c.step : Nat)]) (Same.refl H) hp
    have hpr2 := g _ _ hpr
    refine ⟨_, _, rfl, t_of upd_same, rfl, _, _, rfl, _, _, rfl, rfl, ?_⟩
    refine ⟨_, rfl, _, _, _, _, _, rfl, hpr2, T.cl_Processor, T.t_Processor_setup, rfl, _, rfl, A.su, dx2, _, rfl, g _ _ h3, A.su, S, c.line, K0, rfl, ob.su, sp2.ext, ow.ok, hl, fun v hv => ?_⟩
    obtain ⟨a, g1, hs1, rfl, h5, h6, h7⟩ := hv
    obtain ⟨x, hx, hx2⟩ := pgetr h7 hs
    exact ⟨_, _, _, _, rfl, rfl, Same.tup sp2.ext h5, rfl, _, rfl, _, _, _, _, rfl, rfl, Same.tup sp2.ext h6, atIn hx, q _ _ g hx2⟩
abbrev N_Processor_passes_flag : List Str := ["self", "word", "what"]
theorem sc_Processor_passes_flag : FnScope N_Processor_passes_flag ["self"] (C8.fnScope s_Processor_passes_flag) := C8.fnScope_by (by decide +kernel)
theorem ok_Processor_passes_flag {fd : FuncData} (T : Txt K mg) (F : FunD K "_passes_flag" "Processor._passes_flag" (C8.fnArgs s_Processor_passes_flag) (C8.fnBody s_Processor_passes_flag) (C8.fnScope s_Processor_passes_flag) [] [] (He.ma K (aC "Processor" K) "_passes_flag") fd) (c_present_step : C8.Met P w K mg base 4 (aC "Processor" K) "_present_step" (sp_Processor_present_step K) []) (c_is_up : C8.Met P w K mg base 1 (aC "HouseBoard" K) "is_up" (sp_Board_is_up K) []) :
    C8.Met P w K mg base 5 (aC "Processor" K) "_passes_flag" (sp_Processor_passes_flag K) [] := by
  refine C8.met0 T.cl_Processor T.m_Processor_passes_flag (fun_c8 F) (F.bindsN fun _ _ _ _ _ _ us hl => match us, hl with | [_], _ => rfl) sc_Processor_passes_flag (fun vs H Q E h => ?_) (fun cdv A outer s H vs Q E hr h => ?_)
  · obtain ⟨_, _, _, _, _, _, _, rfl, _⟩ := h
    rfl
  · have nd := sc_Processor_passes_flag.nd
    have hu := hu_of hr
    obtain ⟨A, P, S, K0, b, p, M, rfl, ow, hc, q⟩ := h
    refine ⟨_, (pss_cons (ps_if (pt_not (pt_truth (pe_fld (pv 0) rfl) (by intro _; rfl))) (pss_one (ps_ret pe_bl)) pss_nil)
      (pss_cons (ps_asg (C8.pe_mt0 c_present_step hr (by decide) (pv 0)) (pg_tup rfl (pgs_cons (pg_name (i := 1) nd rfl (Or.inl rfl)) (pgs_cons (pg_name (i := 2) nd rfl (Or.inl rfl)) pgs_nil))))
      (pss_one (ps_ret (pe_and (pe_cmpR op_eq (pv 1) pe_str (nomark _)) (pe_one (C8.pe_mt c_is_up hr (by decide) (pe_fld (pv 0) rfl) (pa_cons (pv 2) pa_nil)))))))), ?_⟩
    obtain ⟨sv, rv, L, h1, h2, ob, sp, bk⟩ := ow.lens
    have hpr := sp.c0
    have B := ob.at_
    obtain ⟨dx2, _, _, _, _, _, h3, _⟩ := B.su.ex
    rcases List.eq_nil_or_concat p.stack with e1 | ⟨rest, c, e1⟩
    · rw [passes_nil e1] at q
      rw [e1] at h1
      cases h1
      exact ⟨_, rfl, _, _, _, _, _, rfl, hpr, T.cl_Processor, T.t_Processor_stack, rfl, false, .inl ⟨_, l_of sp.c1, rfl⟩, iteT (q H (Same.refl H))⟩
    rw [List.concat_eq_append] at e1
    have h1' := h1
    rw [e1] at h1'
    obtain ⟨sv', v, e2, h4, t, rfl, ht⟩ := psnoc h1'
    have so := hc c (by rw [e1]; simp)
    obtain ⟨st, hs⟩ := so.st
    have sk := so.ok ow.ok hs
    have ep := passes_snoc (b := b) e1 hs
    refine ⟨_, rfl, _, _, _, _, _, rfl, hpr, T.cl_Processor, T.t_Processor_stack, rfl, true, .inl ⟨_, l_of sp.c1, by rw [e2]; simp⟩, iteF ?_⟩
    refine ⟨_, rfl, P.pr, P.dp, _, rfl, hpr, rfl, A, P, S, K0, b, p, M, rest, c, st, rfl, ow, e1, so.ln, hs, fun v H1 g1 hv => ?_⟩
    obtain ⟨a, rfl, ha⟩ := hv
    rw [ep] at q
    refine ⟨_, _, rfl, Same.tup (Same.tr sp.ext g1) ha, rfl, _, _, rfl, _, _, rfl, rfl, ?_⟩
    have sp1 := sp.grow g1
    have hpr1 := sp1.c0
    have hbo := (ob.grow g1).obj
    cases st with
    | await f => exact ⟨_, rfl, rfl, true, rfl, iteT ⟨_, rfl, _, _, _, _, _, rfl, hpr1, T.cl_Processor, T.t_Processor_board, rfl, A.bo, A.db, _, rfl, hbo, rfl, _, rfl, A, S, f, K0, b, _, rfl, (ob.grow g1), sk, q H1 g1⟩⟩
    | run n => exact ⟨_, rfl, rfl, false, rfl, iteF (q H1 g1)⟩
    | ring n => exact ⟨_, rfl, rfl, false, rfl, iteF (q H1 g1)⟩
    | quiet n => exact ⟨_, rfl, rfl, false, rfl, iteF (q H1 g1)⟩
    | mask n => exact ⟨_, rfl, rfl, false, rfl, iteF (q H1 g1)⟩
    | unmask n => exact ⟨_, rfl, rfl, false, rfl, iteF (q H1 g1)⟩
    | setf n => exact ⟨_, rfl, rfl, false, rfl, iteF (q H1 g1)⟩
    | clearf n => exact ⟨_, rfl, rfl, false, rfl, iteF (q H1 g1)⟩
    | bar n => exact ⟨_, rfl, rfl, false, rfl, iteF (q H1 g1)⟩
    | later n => exact ⟨_, rfl, rfl, false, rfl, iteF (q H1 g1)⟩
abbrev N_Processor_takes_no_tick : List Str := ["self", "step", "word", "what"]
theorem sc_Processor_takes_no_tick : FnScope N_Processor_takes_no_tick ["self", "step"] (C8.fnScope s_Processor_takes_no_tick) := C8.fnScope_by (by decide +kernel)
theorem ok_Processor_takes_no_tick {fd : FuncData} (T : Txt K mg) (F : FunD K "_takes_no_tick" "Processor._takes_no_tick" (C8.fnArgs s_Processor_takes_no_tick) (C8.fnBody s_Processor_takes_no_tick) (C8.fnScope s_Processor_takes_no_tick) [] [] (He.ma K (aC "Processor" K) "_takes_no_tick") fd) (c_is_up : C8.Met P w K mg base 1 (aC "HouseBoard" K) "is_up" (sp_Board_is_up K) []) :
    C8.Met P w K mg base 2 (aC "Processor" K) "_takes_no_tick" (sp_Processor_takes_no_tick K) [] := by
  refine C8.met0 T.cl_Processor T.m_Processor_takes_no_tick (fun_c8 F) (F.bindsN fun _ _ _ _ _ _ us hl => match us, hl with | [_, _], _ => rfl) sc_Processor_takes_no_tick (fun vs H Q E h => ?_) (fun cdv A outer s H vs Q E hr h => ?_)
  · obtain ⟨_, _, _, _, _, _, _, _, _, rfl, _⟩ := h
    rfl
  · have nd := sc_Processor_takes_no_tick.nd
    have hu := hu_of hr
    obtain ⟨A, P, S, K0, b, p, M, v, st, rfl, ow, ⟨a, rfl, ha⟩, sk, q⟩ := h
    refine ⟨_, (pss_cons (ps_asg (pv 1) (pg_tup rfl (pgs_cons (pg_name (i := 2) nd rfl (Or.inl rfl)) (pgs_cons (pg_name (i := 3) nd rfl (Or.inl rfl)) pgs_nil))))
      (pss_cons (ps_if (pt_cmpR op_eq (pv 2) pe_str (nomark _)) (pss_one (ps_ret (C8.pe_mt c_is_up hr (by decide) (pe_fld (pv 0) rfl) (pa_cons (pv 3) pa_nil)))) pss_nil)
      (pss_one (ps_ret (pe_cmpR op_ne (pv 2) pe_str (nomark _)))))), ?_⟩
    obtain ⟨sv, rv, L, h1, h2, ob, sp, bk⟩ := ow.lens
    have hpr := sp.c0
    have B := ob.at_
    obtain ⟨dx2, _, _, _, _, _, h3, _⟩ := B.su.ex
    have hbo := ob.obj
    refine ⟨_, rfl, _, _, rfl, ha, rfl, _, _, rfl, _, _, rfl, rfl, ?_⟩
    cases st with
    | await f => exact ⟨_, rfl, rfl, true, rfl, iteT ⟨_, rfl, _, _, _, _, _, rfl, hpr, T.cl_Processor, T.t_Processor_board, rfl, A.bo, A.db, _, rfl, hbo, rfl, _, rfl, A, S, f, K0, b, _, rfl, ob, sk, q⟩⟩
    | run n => exact ⟨_, rfl, rfl, false, rfl, iteF ⟨_, rfl, rfl, q⟩⟩
    | ring n => exact ⟨_, rfl, rfl, false, rfl, iteF ⟨_, rfl, rfl, q⟩⟩
    | quiet n => exact ⟨_, rfl, rfl, false, rfl, iteF ⟨_, rfl, rfl, q⟩⟩
    | mask n => exact ⟨_, rfl, rfl, false, rfl, iteF ⟨_, rfl, rfl, q⟩⟩
    | unmask n => exact ⟨_, rfl, rfl, false, rfl, iteF ⟨_, rfl, rfl, q⟩⟩
    | setf n => exact ⟨_, rfl, rfl, false, rfl, iteF ⟨_, rfl, rfl, q⟩⟩
    | clearf n => exact ⟨_, rfl, rfl, false, rfl, iteF ⟨_, rfl, rfl, q⟩⟩
    | bar n => exact ⟨_, rfl, rfl, false, rfl, iteF ⟨_, rfl, rfl, q⟩⟩
    | later n => exact ⟨_, rfl, rfl, false, rfl, iteF ⟨_, rfl, rfl, q⟩⟩
abbrev N_Processor_act : List Str := ["self", "step", "word", "what"]
theorem sc_Processor_act : FnScope N_Processor_act ["self", "step"] (C8.fnScope s_Processor_act) := C8.fnScope_by (by decide +kernel)
theorem ok_Processor_act {fd : FuncData} (T : Txt K mg) (F : FunD K "_act" "Processor._act" (C8.fnArgs s_Processor_act) (C8.fnBody s_Processor_act) (C8.fnScope s_Processor_act) [] [] (He.ma K (aC "Processor" K) "_act") fd) (c_put : C8.Met P w K mg base 1 (aC "WorkQueue" K) "put" (sp_WorkQueue_put K) [.int 0]) (c_bact : C8.Met P w K mg base 12 (aC "HouseBoard" K) "act" (sp_Board_act K) []) :
    C8.Met P w K mg base 14 (aC "Processor" K) "_act" (sp_Processor_act K) [] := by
  refine C8.met0 T.cl_Processor T.m_Processor_act (fun_c8 F) (F.bindsN fun _ _ _ _ _ _ us hl => match us, hl with | [_, _], _ => rfl) sc_Processor_act (fun vs H Q E h => ?_) (fun cdv A outer s H vs Q E hr h => ?_)
  · obtain ⟨_, _, _, _, _, _, _, _, _, rfl, _⟩ := h
    rfl
  · have nd := sc_Processor_act.nd
    have hu := hu_of hr
    obtain ⟨A, P, S, K0, b, p, M, v, st, rfl, ⟨a, rfl, ha⟩, sk, tn, ow, ri, hl, hn, q⟩ := h
    refine ⟨_, (pss_cons (ps_asg (pv 1) (pg_tup rfl (pgs_cons (pg_name (i := 2) nd rfl (Or.inl rfl)) (pgs_cons (pg_name (i := 3) nd rfl (Or.inl rfl)) pgs_nil))))
      (pss_one (ps_if (pt_cmpR op_eq (pv 2) pe_str (nomark _)) (pss_one (ps_fld (pv 0) (pv 3) rfl)) (pss_one (ps_if (pt_cmpR op_eq (pv 2) pe_str (nomark _)) (pss_one (ps_expr (C8.pe_mt c_put hr (by decide) (pe_fld (pv 0) rfl) (pa_cons (pv 3) pa_nil)))) (pss_one (ps_expr (C8.pe_mt c_bact hr (by decide) (pe_fld (pv 0) rfl) (pa_cons (pv 2) (pa_cons (pv 3) pa_nil)))))))))), ?_⟩
    obtain ⟨sv, rv, L, h1, h2, ob, sp, bk⟩ := ow.lens
    have hpr := sp.c0
    have B := ob.at_
    obtain ⟨dx2, _, _, _, _, _, h3, _⟩ := B.su.ex
    have hbo := ob.obj
    have j1 := sp.c2
    refine ⟨_, rfl, _, _, rfl, Same.tup sp.ext ha, rfl, _, _, rfl, _, _, rfl, rfl, ?_⟩
    cases st with
    | run n => cases tn
    | bar n =>
      refine ⟨_, rfl, rfl, true, rfl, iteT ⟨_, rfl, _, rfl, _, _, _, _, rfl, hpr, T.cl_Processor, T.t_Processor_bar, (by simp), ?_⟩⟩
      exact q K0 _ (Same.refl K0) (bk (p' := { p with bar := n }) (Same.refl K0) h1 h2 (sp.put0 (o' := prI K A P n)))
    | later n =>
      obtain ⟨w, hw, rfl⟩ := sk
      refine ⟨_, rfl, rfl, false, rfl, iteF ⟨_, rfl, rfl, true, rfl, iteT ?_⟩⟩
      refine ⟨_, rfl, _, _, _, _, _, rfl, hpr, T.cl_Processor, T.t_Processor_jobs, rfl, P.jo, P.dj, _, rfl, j1, rfl, _, rfl, P.jo, P.dj, P.rk, P.ln, P.ro, S.ws, rv, p.rows, w, 0, K0, _, rfl, ow.fj, ri, hw, h2, hl, sp.upQ, fun K1 H1 rv' g hp sp1 => ?_⟩
      exact q K1 H1 g (bk (p' := { p with rows := putR S.ws p.rows w.name 0 }) g (h1.mono fun _ _ z => CallAt.up g z) hp sp1.dnQ)
    | ring n => exact ⟨_, rfl, rfl, false, rfl, iteF ⟨_, rfl, rfl, false, rfl, iteF ⟨_, rfl, _, _, _, _, _, rfl, hpr, T.cl_Processor, T.t_Processor_board, rfl, A.bo, A.db, _, rfl, hbo, rfl, _, rfl, _, rfl, A, S, .ring n, K0, b, _, rfl, ob, sk, rfl, hn, fun K1 H1 g ob1 => q K1 H1 g (ow.ob g (h1.mono fun _ _ z => CallAt.up g z) (h2.mono fun _ _ z => RowAt.up g z) ob1)⟩⟩⟩
    | quiet n => exact ⟨_, rfl, rfl, false, rfl, iteF ⟨_, rfl, rfl, false, rfl, iteF ⟨_, rfl, _, _, _, _, _, rfl, hpr, T.cl_Processor, T.t_Processor_board, rfl, A.bo, A.db, _, rfl, hbo, rfl, _, rfl, _, rfl, A, S, .quiet n, K0, b, _, rfl, ob, sk, rfl, hn, fun K1 H1 g ob1 => q K1 H1 g (ow.ob g (h1.mono fun _ _ z => CallAt.up g z) (h2.mono fun _ _ z => RowAt.up g z) ob1)⟩⟩⟩
    | mask n => exact ⟨_, rfl, rfl, false, rfl, iteF ⟨_, rfl, rfl, false, rfl, iteF ⟨_, rfl, _, _, _, _, _, rfl, hpr, T.cl_Processor, T.t_Processor_board, rfl, A.bo, A.db, _, rfl, hbo, rfl, _, rfl, _, rfl, A, S, .mask n, K0, b, _, rfl, ob, sk, rfl, hn, fun K1 H1 g ob1 => q K1 H1 g (ow.ob g (h1.mono fun _ _ z => CallAt.up g z) (h2.mono fun _ _ z => RowAt.up g z) ob1)⟩⟩⟩
    | unmask n => exact ⟨_, rfl, rfl, false, rfl, iteF ⟨_, rfl, rfl, false, rfl, iteF ⟨_, rfl, _, _, _, _, _, rfl, hpr, T.cl_Processor, T.t_Processor_board, rfl, A.bo, A.db, _, rfl, hbo, rfl, _, rfl, _, rfl, A, S, .unmask n, K0, b, _, rfl, ob, sk, rfl, hn, fun K1 H1 g ob1 => q K1 H1 g (ow.ob g (h1.mono fun _ _ z => CallAt.up g z) (h2.mono fun _ _ z => RowAt.up g z) ob1)⟩⟩⟩
    | setf n => exact ⟨_, rfl, rfl, false, rfl, iteF ⟨_, rfl, rfl, false, rfl, iteF ⟨_, rfl, _, _, _, _, _, rfl, hpr, T.cl_Processor, T.t_Processor_board, rfl, A.bo, A.db, _, rfl, hbo, rfl, _, rfl, _, rfl, A, S, .setf n, K0, b, _, rfl, ob, sk, rfl, hn, fun K1 H1 g ob1 => q K1 H1 g (ow.ob g (h1.mono fun _ _ z => CallAt.up g z) (h2.mono fun _ _ z => RowAt.up g z) ob1)⟩⟩⟩
    | clearf n => exact ⟨_, rfl, rfl, false, rfl, iteF ⟨_, rfl, rfl, false, rfl, iteF ⟨_, rfl, _, _, _, _, _, rfl, hpr, T.cl_Processor, T.t_Processor_board, rfl, A.bo, A.db, _, rfl, hbo, rfl, _, rfl, _, rfl, A, S, .clearf n, K0, b, _, rfl, ob, sk, rfl, hn, fun K1 H1 g ob1 => q K1 H1 g (ow.ob g (h1.mono fun _ _ z => CallAt.up g z) (h2.mono fun _ _ z => RowAt.up g z) ob1)⟩⟩⟩
    | await n => exact ⟨_, rfl, rfl, false, rfl, iteF ⟨_, rfl, rfl, false, rfl, iteF ⟨_, rfl, _, _, _, _, _, rfl, hpr, T.cl_Processor, T.t_Processor_board, rfl, A.bo, A.db, _, rfl, hbo, rfl, _, rfl, _, rfl, A, S, .await n, K0, b, _, rfl, ob, sk, rfl, hn, fun K1 H1 g ob1 => q K1 H1 g (ow.ob g (h1.mono fun _ _ z => CallAt.up g z) (h2.mono fun _ _ z => RowAt.up g z) ob1)⟩⟩⟩
end
end Cb

namespace Cb
open PySem PySem.Spec PyProof.Rows L2
theorem putR_in {ws : List WorkD} {rows : List (Str × Int)} {w : WorkD} {x : Int} (h : RowsIn ws rows) (hw : w ∈ ws) : RowsIn ws (putR ws rows w.name x) := by
  unfold putR
  split
  · exact h
  · intro r m
    simp only [List.mem_append, List.mem_singleton] at m
    rcases m with (m | m) | m
    · exact h r (List.mem_of_mem_take m)
    · subst m
      exact ⟨w, hw, rfl⟩
    · exact h r (List.mem_of_mem_drop m)
theorem putR_len {ws : List WorkD} {rows : List (Str × Int)} {n : Str} {x : Int} : (putR ws rows n x).length ≤ rows.length + 1 := by
  unfold putR
  split
  · omega
  · simp
    omega
theorem actP_in {S : SetD} {p : PrD} {st : SD} (h : RowsIn S.ws p.rows) (ok : StepOk S.ls S.ws st) : RowsIn S.ws (actP S.ws p st).rows := by
  cases st <;> try exact h
  case later w =>
    obtain ⟨x, hx, rfl⟩ := ok
    exact putR_in h hx
theorem actP_len {ws : List WorkD} {p : PrD} {st : SD} : (actP ws p st).rows.length ≤ p.rows.length + 1 := by
  cases st <;> try exact Nat.le_succ _
  exact putR_len
theorem actP_stack {ws : List WorkD} {p : PrD} {st : SD} : (actP ws p st).stack = p.stack := by cases st <;> rfl
theorem thru_step {ws : List WorkD} {l : List SD} {j : Nat} {b : BdD} {p : PrD} {st : SD} (h : l[j]? = some st) (t : takesNo b st = true) : thru ws (l.drop j) j b p = thru ws (l.drop (j + 1)) (j + 1) (actB b st) (actP ws p st) := by
  have hj : j < l.length := (List.getElem?_eq_some_iff.mp h).1
  have e : l[j] = st := (List.getElem?_eq_some_iff.mp h).2
  rw [List.drop_eq_getElem_cons hj, thru, e, if_pos t]
theorem thru_stop {ws : List WorkD} {l : List SD} {j : Nat} {b : BdD} {p : PrD} {st : SD} (h : l[j]? = some st) (t : takesNo b st = false) : thru ws (l.drop j) j b p = (j, b, p) := by
  have hj : j < l.length := (List.getElem?_eq_some_iff.mp h).1
  have e : l[j] = st := (List.getElem?_eq_some_iff.mp h).2
  rw [List.drop_eq_getElem_cons hj, thru, e, t]
  rfl
theorem thru_end {ws : List WorkD} {l : List SD} {j : Nat} {b : BdD} {p : PrD} (h : l.length ≤ j) : thru ws (l.drop j) j b p = (j, b, p) := by
  rw [List.drop_of_length_le h]
  rfl
theorem goA_snoc {ws : List WorkD} {b : BdD} {p : PrD} {r : List CallD} {c : CallD} (h : p.stack = r ++ [c]) : goA ws b p =
    let z := thru ws (c.line.steps.drop c.step) c.step b { p with stack := r }
    if z.1 < c.line.steps.length then (z.2.1, { z.2.2 with stack := z.2.2.stack ++ [⟨c.line, z.1, c.ticks, c.kept⟩] }, []) else (endB z.2.1 c.line, { z.2.2 with bar := c.kept }, [.fin c.line]) := by
  unfold goA
  rw [h, last_snoc]
  simp only [List.dropLast_concat]
def PostE (K : PySem.W.Frag) (A : AdB) (P : AdP) (S : SetD) (K0 : Hp) (M : List (Addr × HO)) (Q : VK) (z : BdD × PrD × List Ev) : Prop :=
  ∀ K1 H' a ev, Same K0 K1 → Own K A P S K1 H' z.1 z.2.1 M → K1 a = some (.lst ev) → Paired (EvAt K K1) ev z.2.2 → Q (.ref a) H'

def sp_Processor_go_through (K : PySem.W.Frag) : Sp := fun vs H Q _ => ∃ (A : AdB) (P : AdP) (S : SetD) (K0 : Hp) (b : BdD) (p : PrD) (M : List (Addr × HO)) (rest : List CallD) (c : CallD), vs = [.ref P.pr] ∧ Own K A P S K0 H b p M ∧ p.stack = rest ++ [c] ∧ c.line ∈ S.ls ∧ c.step ≤ c.line.steps.length ∧ RowsIn S.ws p.rows ∧ p.rows.length ≤ 900000 ∧ p.stack.length ≤ 900000 ∧ b.rg.length ≤ 15900000 ∧
  PostE K A P S K0 M Q (goA S.ws b p)

section
variable {P : Program} {w : World} {K : PySem.W.Frag} {mg : Str → Option Value} {base : Heap}

abbrev N_Processor_go_through : List Str := ["self", "line", "step", "ticks", "kept", "handler"]
theorem sc_Processor_go_through : FnScope N_Processor_go_through ["self"] (C8.fnScope s_Processor_go_through) := C8.fnScope_by (by decide +kernel)
theorem ok_Processor_go_through {fd : FuncData} (T : Txt K mg) (F : FunD K "_go_through" "Processor._go_through" (C8.fnArgs s_Processor_go_through) (C8.fnBody s_Processor_go_through) (C8.fnScope s_Processor_go_through) [] [] (He.ma K (aC "Processor" K) "_go_through") fd) (c_getitem : C8.Met P w K mg base 2 (aC "Setup" K) "__getitem__" (sp_Setup_getitem K) []) (c_takes_no_tick : C8.Met P w K mg base 2 (aC "Processor" K) "_takes_no_tick" (sp_Processor_takes_no_tick K) []) (c_act : C8.Met P w K mg base 14 (aC "Processor" K) "_act" (sp_Processor_act K) []) (c_end : C8.Met P w K mg base 3 (aC "HouseBoard" K) "end" (sp_HouseBoard_end K) []) :
    C8.Met P w K mg base 15 (aC "Processor" K) "_go_through" (sp_Processor_go_through K) [] := by
  refine C8.met0 T.cl_Processor T.m_Processor_go_through (fun_c8 F) (F.bindsN fun _ _ _ _ _ _ us hl => match us, hl with | [_], _ => rfl) sc_Processor_go_through (fun vs H Q E h => ?_) (fun cdv A outer s H vs Q E hr h => ?_)
  · obtain ⟨_, _, _, _, _, _, _, _, _, rfl, _⟩ := h
    rfl
  · have nd := sc_Processor_go_through.nd
    have hu := hu_of hr
    obtain ⟨A, P, S, K0, b, p, M, rest, c, rfl, ow, hst, hl, hcs, hrows, hrl, hsl, hrg, q⟩ := h
    refine ⟨_, (pss_cons (ps_asg (pe_bm0 PySem.F.plainAttrs_list PySem.F.slot_list_pop PySem.F.type_list_pop mt_pop (pe_fld (pv 0) rfl)) (pg_tup rfl (pgs_cons (pg_name (i := 1) nd rfl (Or.inl rfl)) (pgs_cons (pg_name (i := 2) nd rfl (Or.inl rfl)) (pgs_cons (pg_name (i := 3) nd rfl (Or.inl rfl)) (pgs_cons (pg_name (i := 4) nd rfl (Or.inl rfl)) pgs_nil))))))
      (pss_cons (ps_set (i := 5) nd rfl (Or.inl rfl) (pe_ix ix_tup (C_ix T.m_Setup_getitem T.i_getitem c_getitem hr (by decide) (pe_fld (pv 0) rfl) (pv 1)) pe_int (fun _ _ => rfl)))
      (pss_cons (ps_while PassesOwn.never (PW.pt (pw_and (pt_cmpR op_lt (pv 2) (pe_callB call_len_seq (by rfl) T.n_len (by decide +kernel) (pa_cons (pv 5) pa_nil)) (nomark _)) (pw_and1 (pt_val (C8.pe_mt c_takes_no_tick hr (by decide) (pv 0) (pa_cons (pe_ix ix_tup (pv 5) (pv 2) (fun _ _ => rfl)) pa_nil)))))) (pss_cons (ps_expr (C8.pe_mt c_act hr (by decide) (pv 0) (pa_cons (pe_ix ix_tup (pv 5) (pv 2) (fun _ _ => rfl)) pa_nil)))
      (pss_one (ps_aug (i := 2) nd rfl (Or.inl rfl) pe_int ip_add))))
      (pss_cons (ps_if (pt_cmpR op_lt (pv 2) (pe_callB call_len_seq (by rfl) T.n_len (by decide +kernel) (pa_cons (pv 5) pa_nil)) (nomark _)) (pss_cons (ps_expr (pe_bm PySem.F.plainAttrs_list PySem.F.slot_list_append PySem.F.type_list_append mt_append (pe_fld (pv 0) rfl) (pa_cons (pe_tup (pa_cons (pv 1) (pa_cons (pv 2) (pa_cons (pv 3) (pa_cons (pv 4) pa_nil))))) pa_nil)))
      (pss_one (ps_ret (pe_lst pa_nil)))) pss_nil)
      (pss_cons (ps_fld (pv 0) (pv 4) rfl)
      (pss_cons (ps_expr (C8.pe_mt c_end hr (by decide) (pe_fld (pv 0) rfl) (pa_cons (pv 1) pa_nil)))
      (pss_one (ps_ret (pe_lst (pa_cons (pe_tup (pa_cons pe_str (pa_cons (pv 1) pa_nil))) pa_nil)))))))))), ?_⟩
    obtain ⟨sv, rv, L, h1, h2, ob, sp, bk⟩ := ow.lens
    have hpr := sp.c0
    obtain ⟨dx2, _, _, _, _, _, h3, _⟩ := ob.su.ex
    rw [hst] at h1
    obtain ⟨sv', v, e2, h4, t, rfl, ht⟩ := psnoc h1
    have hc3 := sp.c1
    rw [e2] at hc3
    have hlast : (sv' ++ [V.ref t])[(sv' ++ [V.ref t]).length - 1]? = some (V.ref t) := by simp
    rw [goA_snoc hst] at q
    refine ⟨_, rfl, _, _, _, _, _, rfl, hpr, T.cl_Processor, T.t_Processor_stack, rfl, .inl ⟨rfl, _, .inl (.inl hc3)⟩, _, _, _, rfl, rfl, hc3, hlast, ?_⟩
    rw [List.dropLast_concat]
    have sp1 := sp.put1 (y := .lst sv')
    have ow1 : Own K A P S K0 (upd H P.st (.lst sv')) b { p with stack := rest } M := bk (p' := { p with stack := rest }) (Same.refl K0) h4 h2 sp1
    have hpr1 := sp1.c0
    refine ⟨_, _, rfl, Same.tup sp1.ext ht, rfl, _, _, rfl, _, _, rfl, _, _, rfl, _, _, rfl, rfl, ?_⟩
    refine ⟨_, rfl, _, _, _, _, _, rfl, hpr1, T.cl_Processor, T.t_Processor_setup, rfl, _, rfl, A.su, dx2, _, rfl, sp1.ext _ _ h3, A.su, S, c.line, K0, rfl, ob.su, sp1.ext, ow.ok, hl, fun v hv => ?_⟩
    obtain ⟨a, g1, hs1, rfl, h5, h6, h7⟩ := hv
    have hlen := h7.length
    refine ⟨_, _, _, _, rfl, rfl, Same.tup sp1.ext h5, rfl, ?_⟩
    refine ⟨fun m σ H' => ∃ j, m = c.line.steps.length - j ∧ c.step ≤ j ∧ j ≤ c.line.steps.length ∧ ∃ K' b' p', σ = [some (.ref P.pr), some (.str c.line.name), some (.int (j : Nat)), some (.int c.ticks), some (.int c.kept), some (.ref g1)] ∧ Same K0 K' ∧ Own K A P S K' H' b' p' M ∧ p'.stack = rest ∧ RowsIn S.ws p'.rows ∧ p'.rows.length ≤ p.rows.length + (j - c.step) ∧ b'.rg.length ≤ b.rg.length + (j - c.step) ∧ thru S.ws (c.line.steps.drop c.step) c.step b { p with stack := rest } = thru S.ws (c.line.steps.drop (j)) (j) b' p', ⟨_, c.step, rfl, Nat.le_refl _, hcs, K0, b, _, rfl, Same.refl K0, ow1, rfl, hrows, Nat.le_add_right _ _, Nat.le_add_right _ _, rfl⟩, ?_⟩
    rintro m σ H1 ⟨j, rfl, hj1, hj2, K1, b1, p1, rfl, gg, ow2, st2, ri2, rl2, rg2, th2⟩
    obtain ⟨sv2, rv2, L2, k1, k2, ob2, sp2, bk2⟩ := ow2.lens
    have l8 := (ow.ok.ok.ok c.line hl).s8
    have hh := Same.tup (Same.tr gg sp2.ext) h6
    have hpr2 := sp2.c0
    rw [th2] at q
    rcases Nat.lt_or_ge j c.line.steps.length with hj | hj
    · have hstj : c.line.steps[j]? = some c.line.steps[j] := List.getElem?_eq_getElem hj
      have hsok := ow.ok.all c.line hl _ (List.mem_of_getElem? hstj)
      obtain ⟨x, hx, hx2⟩ := pgetr h7 hstj
      have hx1 := StepAt.up gg hx2
      have htst : decide ((j : Int) < (hs1.length : Nat)) = true := decide_eq_true (by omega)
      refine ⟨_, rfl, _, rfl, _, _, rfl, .inr hh, _, _, rfl, rfl, true, congrArg V.bl htst, iteT ?_⟩
      refine ⟨_, rfl, P.pr, P.dp, _, rfl, hpr2, rfl, _, rfl, _, rfl, _, _, _, _, rfl, rfl, hh, atIn hx, A, P, S, K1, b1, p1, M, x, _, rfl, ow2, StepAt.up sp2.ext hx1, hsok, _, rfl, ?_⟩
      cases est : takesNo b1 c.line.steps[j] with
      | true =>
        refine iteT ⟨fun σ' H' => ∃ K' b' p', σ' = [some (.ref P.pr), some (.str c.line.name), some (.int ((j + 1) : Nat)), some (.int c.ticks), some (.int c.kept), some (.ref g1)] ∧ Same K0 K' ∧ Own K A P S K' H' b' p' M ∧ p'.stack = rest ∧ RowsIn S.ws p'.rows ∧ p'.rows.length ≤ p.rows.length + (j + 1 - c.step) ∧ b'.rg.length ≤ b.rg.length + (j + 1 - c.step) ∧ thru S.ws (c.line.steps.drop c.step) c.step b { p with stack := rest } = thru S.ws (c.line.steps.drop (j + 1)) (j + 1) b' p', ?_, ?_⟩
        · rintro σ' H' ⟨K', b', p', e1, e2, e3, e4, e5, e6, e7, e8⟩
          exact ⟨c.line.steps.length - (j + 1), by omega, j + 1, rfl, by omega, by omega, K', b', p', e1, e2, e3, e4, e5, e6, e7, e8⟩
        · refine ⟨_, rfl, P.pr, P.dp, _, rfl, hpr2, rfl, _, rfl, _, rfl, _, _, _, _, rfl, rfl, hh, atIn hx, A, P, S, K1, b1, p1, M, x, _, rfl, hx1, hsok, est, ow2, ri2, (show p1.rows.length ≤ 1000000 by omega), (show b1.rg.length < 16000000 by omega), fun K2 H2 g2 ow3 => ?_⟩
          have z := actP_len (ws := S.ws) (p := p1) (st := c.line.steps[j])
          have z2 := actB_rg (b := b1) (st := c.line.steps[j])
          exact ⟨_, rfl, _, _, rfl, rfl, K2, _, _, by simp, Same.tr gg g2, ow3, by rw [actP_stack]; exact st2, actP_in ri2 hsok, by omega, by omega, by rw [th2, thru_step hstj est]⟩
      | false =>
        rw [thru_stop hstj est] at q
        simp only [hj, if_true] at q
        refine iteF ?_
        refine ⟨_, rfl, _, rfl, _, _, rfl, .inr hh, _, _, rfl, rfl, true, congrArg V.bl htst, iteT ?_⟩
        refine ⟨_, rfl, _, _, _, _, _, rfl, hpr2, T.cl_Processor, T.t_Processor_stack, rfl, .inl ⟨rfl, _, .inl (.inl sp2.c1)⟩, _, rfl, _, rfl, _, rfl, _, rfl, small8 (by simp), fun t2 ht2 => ?_⟩
        have sp3 := sp2.keep (o := .tup [.str c.line.name, .int (j : Nat), .int c.ticks, .int c.kept]) ht2
        have g3 := sp2.newk (o := .tup [.str c.line.name, .int (j : Nat), .int c.ticks, .int c.kept]) ht2
        refine ⟨_, _, _, rfl, rfl, sp3.c1, sm6 (by have hk := k1.length; rw [st2] at hk; rw [hst] at hsl; simp at hsl; omega), ?_⟩
        have sp4 := sp3.put1 (y := .lst (sv2 ++ [.ref t2]))
        refine ⟨Nat.zero_le _, fun a hp => ?_⟩
        have sp5 := sp4.keep (o := .lst []) hp
        have g5 := sp4.newk (o := .lst []) hp
        have g35 := Same.tr g3 g5
        exact q _ _ a [] (Same.tr gg g35) (bk2 (p' := { p1 with stack := p1.stack ++ [⟨c.line, j, c.ticks, c.kept⟩] }) g35 (Paired.snoc (k1.mono fun _ _ z => CallAt.up g35 z) ⟨t2, rfl, t_of (g5 _ _ upd_same)⟩) (k2.mono fun _ _ z => RowAt.up g35 z) sp5) upd_same .nil
    · rw [thru_end hj] at q
      simp only [Nat.not_lt.mpr hj, if_false] at q
      have htst : decide ((j : Int) < (hs1.length : Nat)) = false := decide_eq_false (by omega)
      refine ⟨_, rfl, _, rfl, _, _, rfl, .inr hh, _, _, rfl, rfl, false, congrArg V.bl htst, iteF ?_⟩
      refine ⟨_, rfl, _, rfl, _, _, rfl, .inr hh, _, _, rfl, rfl, false, congrArg V.bl htst, iteF ?_⟩
      refine ⟨_, rfl, _, rfl, _, _, _, _, rfl, hpr2, T.cl_Processor, T.t_Processor_bar, (by simp), ?_⟩
      have sp3 := sp2.put0 (o' := prI K A P c.kept)
      have ow3 : Own K A P S K1 _ b1 { p1 with bar := c.kept } M := bk2 (p' := { p1 with bar := c.kept }) (Same.refl K1) k1 k2 sp3
      obtain ⟨sv3, rv3, L3, m1, m2, ob3, sp3, bk3⟩ := ow3.lens
      have hbo := ob3.obj
      have hpr3 := sp3.c0
      refine ⟨_, rfl, _, _, _, _, _, rfl, hpr3, T.cl_Processor, T.t_Processor_board, rfl, A.bo, A.db, _, rfl, hbo, rfl, _, rfl, A, S, c.line, K1, b1, _, rfl, ob3, hl, fun H2 ob5 => ?_⟩
      have ow5 := ow3.ob (Same.refl K1) (p' := { p1 with bar := c.kept }) m1 m2 ob5
      obtain ⟨sv5, rv5, L5, n1, n2, ob5, sp5, bk5⟩ := ow5.lens
      refine ⟨_, rfl, small8 (by simp), fun t2 ht2 => ?_⟩
      have sp6 := sp5.keep (o := .tup [.str "end", .str c.line.name]) ht2
      have g6 := sp5.newk (o := .tup [.str "end", .str c.line.name]) ht2
      refine ⟨small8 (by simp), fun a hp => ?_⟩
      have sp7 := sp6.keep (o := .lst [.ref t2]) hp
      have g7 := sp6.newk (o := .lst [.ref t2]) hp
      have g67 := Same.tr g6 g7
      exact q _ _ a [.ref t2] (Same.tr gg g67) (bk5 (p' := { p1 with bar := c.kept }) g67 (n1.mono fun _ _ z => CallAt.up g67 z) (n2.mono fun _ _ z => RowAt.up g67 z) sp7) upd_same (.cons ⟨t2, rfl, t_of (g7 _ _ upd_same)⟩ .nil)
end
end Cb

namespace Cb
open PySem PySem.Spec PyProof.Rows L2
structure ThruOk (S : SetD) (l : List SD) (j : Nat) (b : BdD) (p : PrD) (z : Nat × BdD × PrD) : Prop where
  lo : j ≤ z.1
  hi : z.1 ≤ l.length
  st : z.2.2.stack = p.stack
  ri : RowsIn S.ws z.2.2.rows
  rl : z.2.2.rows.length ≤ p.rows.length + (z.1 - j)
  fl : z.2.1.fl.length = b.fl.length
  at_ : z.1 < l.length → ∃ st, l[z.1]? = some st ∧ takesNo z.2.1 st = false
theorem thru_ok {S : SetD} {l : List SD} (ok : ∀ st ∈ l, StepOk S.ls S.ws st) : ∀ (k j : Nat) (b : BdD) (p : PrD), l.length - j = k → j ≤ l.length → RowsIn S.ws p.rows → ThruOk S l j b p (thru S.ws (l.drop j) j b p)
  | 0, j, b, p, hk, hj, ri => by
    rw [thru_end (by omega)]
    exact ⟨Nat.le_refl _, hj, rfl, ri, Nat.le_add_right _ _, rfl, fun h => absurd h (by simp only; omega)⟩
  | k + 1, j, b, p, hk, hj, ri => by
    have hlt : j < l.length := by omega
    have hst : l[j]? = some l[j] := List.getElem?_eq_getElem hlt
    have so := ok _ (List.mem_of_getElem? hst)
    cases e : takesNo b l[j] with
    | true =>
      rw [thru_step hst e]
      have ih := thru_ok ok k (j + 1) (actB b l[j]) (actP S.ws p l[j]) (by omega) (by omega) (actP_in ri so)
      have z := actP_len (ws := S.ws) (p := p) (st := l[j])
      have z2 := ih.rl
      have z3 := ih.lo
      exact ⟨by omega, ih.hi, ih.st.trans actP_stack, ih.ri, by omega, ih.fl.trans actB_len, ih.at_⟩
    | false =>
      rw [thru_stop hst e]
      exact ⟨Nat.le_refl _, hj, rfl, ri, Nat.le_add_right _ _, rfl, fun _ => ⟨_, hst, e⟩⟩
structure GoOk (S : SetD) (b : BdD) (p : PrD) (r : List CallD) (z : BdD × PrD × List Ev) : Prop where
  calls : ∀ c ∈ z.2.1.stack, CallOk S c
  ri : RowsIn S.ws z.2.1.rows
  rl : z.2.1.rows.length ≤ p.rows.length + 8
  fl : z.1.fl.length = b.fl.length
  sl : (z.2.1.stack = r ∧ z.2.2.length = 1) ∨ (passes z.1 z.2.1 = false ∧ z.2.2 = [] ∧ z.2.1.stack.length = r.length + 1)
theorem goA_ok {S : SetD} {b : BdD} {p : PrD} {r : List CallD} {c : CallD} (ok : SetOk S) (h : p.stack = r ++ [c]) (hl : c.line ∈ S.ls) (hs : c.step ≤ c.line.steps.length) (ht : c.ticks = 0) (hr : ∀ c' ∈ r, CallOk S c') (ri : RowsIn S.ws p.rows) : GoOk S b p r (goA S.ws b p) := by
  have T := thru_ok (S := S) (l := c.line.steps) (fun st m => ok.all c.line hl st m) _ c.step b { p with stack := r } rfl hs ri
  have l8 := (ok.ok.ok c.line hl).s8
  rw [goA_snoc h]
  generalize thru S.ws (c.line.steps.drop c.step) c.step b { p with stack := r } = z at T
  obtain ⟨lo, hi, st, ri', rl, fl, at_⟩ := T
  have st : z.2.2.stack = r := st
  have rl : z.2.2.rows.length ≤ p.rows.length + (z.1 - c.step) := rl
  simp only
  by_cases hz : z.1 < c.line.steps.length
  · simp only [hz, if_true]
    obtain ⟨sd, h1, h2⟩ := at_ hz
    have so := ok.all c.line hl sd (List.mem_of_getElem? h1)
    have hc : CallOk S ⟨c.line, z.1, c.ticks, c.kept⟩ := ⟨hl, by
      cases sd with
      | run n => exact .inl ⟨n, h1, by simp only; omega, by have := so.1; simp only; omega⟩
      | await f => exact .inr ⟨f, h1, ht⟩
      | _ => cases h2⟩
    refine ⟨fun c' m => ?_, ri', by simp only; omega, fl, .inr ⟨?_, rfl, by simp [st]⟩⟩
    · simp only [st, List.mem_append, List.mem_singleton] at m
      rcases m with m | m
      · exact hr c' m
      · rw [m]
        exact hc
    · rw [passes_snoc (r := z.2.2.stack) (c := ⟨c.line, z.1, c.ticks, c.kept⟩) (st := sd) rfl h1]
      cases sd with
      | await f => exact h2
      | _ => rfl
  · simp only [hz, if_false]
    exact ⟨fun c' m => hr c' (st ▸ m), ri', by simp only; omega, fl, .inl ⟨st, rfl⟩⟩

theorem thru_rg {ws : List WorkD} : ∀ (l : List SD) (j : Nat) (b : BdD) (p : PrD), (thru ws l j b p).2.1.rg.length ≤ b.rg.length + l.length
  | [], _, _, _ => Nat.le_refl _
  | st :: r, j, b, p => by
    rw [Cb.thru]
    split
    · have z := thru_rg (ws := ws) r (j + 1) (actB b st) (actP ws p st)
      have z2 := actB_rg (b := b) (st := st)
      rw [List.length_cons]
      omega
    · exact Nat.le_add_right _ _
theorem goA_rg {S : SetD} {b : BdD} {p : PrD} {r : List CallD} {c : CallD} (ok : SetOk S) (h : p.stack = r ++ [c]) (hl : c.line ∈ S.ls) : (goA S.ws b p).1.rg.length ≤ b.rg.length + 8 := by
  have l8 := (ok.ok.ok c.line hl).s8
  have z := thru_rg (ws := S.ws) (c.line.steps.drop c.step) c.step b { p with stack := r }
  rw [List.length_drop] at z
  rw [goA_snoc h]
  simp only
  split
  · show (Cb.thru S.ws (c.line.steps.drop c.step) c.step b { p with stack := r }).2.1.rg.length ≤ _
    omega
  · show (Cb.thru S.ws (c.line.steps.drop c.step) c.step b { p with stack := r }).2.1.rg.length ≤ _
    omega
theorem spendA_nil {ws : List WorkD} {b : BdD} {p : PrD} (h : p.stack = []) : spendA ws b p = match p.rows with
    | [] => (b, { p with c3 := p.c3 + 1 }, [])
    | (n, t) :: r => if t + 1 < lenOf ws n then (b, { p with c2 := p.c2 + 1, rows := (n, t + 1) :: r }, []) else (b, { p with c2 := p.c2 + 1, rows := r }, [.dne n]) := by
  unfold spendA
  rw [h]
  rfl
theorem spendA_await {ws : List WorkD} {b : BdD} {p : PrD} {r : List CallD} {c : CallD} {f : Nat} (h : p.stack = r ++ [c]) (e : stepOf c = some (.await f)) : spendA ws b p = (b, { p with c1 := p.c1 + 1 }, []) := by
  unfold spendA
  rw [h, last_snoc]
  simp only [e]
theorem spendA_run {ws : List WorkD} {b : BdD} {p : PrD} {r : List CallD} {c : CallD} {n : Int} (h : p.stack = r ++ [c]) (e : stepOf c = some (.run n)) : spendA ws b p = if c.ticks + 1 < n then (b, { p with c0 := p.c0 + 1, stack := r ++ [⟨c.line, c.step, c.ticks + 1, c.kept⟩] }, []) else goA ws b { p with c0 := p.c0 + 1, stack := r ++ [⟨c.line, c.step + 1, 0, c.kept⟩] } := by
  unfold spendA
  rw [h, last_snoc]
  simp only [e, List.dropLast_concat]

theorem spendA_rg {S : SetD} {b : BdD} {p : PrD} (ok : SetOk S) (hc : ∀ c ∈ p.stack, CallOk S c) : (spendA S.ws b p).1.rg.length ≤ b.rg.length + 8 := by
  rcases List.eq_nil_or_concat p.stack with e | ⟨r, c, e⟩
  · rw [spendA_nil e]
    split
    · exact Nat.le_add_right _ _
    · split <;> exact Nat.le_add_right _ _
  · rw [List.concat_eq_append] at e
    have hco := hc c (by rw [e]; simp)
    rcases hco.st with ⟨n, hn, _⟩ | ⟨f, hf, _⟩
    · rw [spendA_run e hn]
      split
      · exact Nat.le_add_right _ _
      · exact goA_rg (c := ⟨c.line, c.step + 1, 0, c.kept⟩) ok rfl hco.ln
    · rw [spendA_await e hf]
      exact Nat.le_add_right _ _
def sp_Processor_spend_beside_calls (K : PySem.W.Frag) : Sp := fun vs H Q _ => ∃ (A : AdB) (P : AdP) (S : SetD) (K0 : Hp) (b : BdD) (p : PrD) (M : List (Addr × HO)), vs = [.ref P.pr] ∧ Own K A P S K0 H b p M ∧ p.stack = [] ∧ RowsIn S.ws p.rows ∧ p.rows.length ≤ 900000 ∧
  PostE K A P S K0 M Q (spendA S.ws b p)
def sp_Processor_spend (K : PySem.W.Frag) : Sp := fun vs H Q _ => ∃ (A : AdB) (P : AdP) (S : SetD) (K0 : Hp) (b : BdD) (p : PrD) (M : List (Addr × HO)), vs = [.ref P.pr] ∧ Own K A P S K0 H b p M ∧ (∀ c ∈ p.stack, CallOk S c) ∧ RowsIn S.ws p.rows ∧ p.rows.length ≤ 900000 ∧ p.stack.length ≤ 900000 ∧ b.rg.length ≤ 15900000 ∧
  PostE K A P S K0 M Q (spendA S.ws b p)

section
variable {P : Program} {w : World} {K : PySem.W.Frag} {mg : Str → Option Value} {base : Heap}

abbrev N_Processor_spend_beside_calls : List Str := ["self", "work"]
theorem sc_Processor_spend_beside_calls : FnScope N_Processor_spend_beside_calls ["self"] (C8.fnScope s_Processor_spend_beside_calls) := C8.fnScope_by (by decide +kernel)
theorem ok_Processor_spend_beside_calls {fd : FuncData} (T : Txt K mg) (F : FunD K "_spend_beside_calls" "Processor._spend_beside_calls" (C8.fnArgs s_Processor_spend_beside_calls) (C8.fnBody s_Processor_spend_beside_calls) (C8.fnScope s_Processor_spend_beside_calls) [] [] (He.ma K (aC "Processor" K) "_spend_beside_calls") fd) (c_is_empty : C8.Met P w K mg base 1 (aC "WorkQueue" K) "is_empty" (sp_WorkQueue_is_empty K) []) (c_jspend : C8.Met P w K mg base 1 (aC "WorkQueue" K) "spend" (sp_WorkQueue_spend K) []) :
    C8.Met P w K mg base 2 (aC "Processor" K) "_spend_beside_calls" (sp_Processor_spend_beside_calls K) [] := by
  refine C8.met0 T.cl_Processor T.m_Processor_spend_beside_calls (fun_c8 F) (F.bindsN fun _ _ _ _ _ _ us hl => match us, hl with | [_], _ => rfl) sc_Processor_spend_beside_calls (fun vs H Q E h => ?_) (fun cdv A outer s H vs Q E hr h => ?_)
  · obtain ⟨_, _, _, _, _, _, _, rfl, _⟩ := h
    rfl
  · have nd := sc_Processor_spend_beside_calls.nd
    have hu := hu_of hr
    obtain ⟨A, P, S, K0, b, p, M, rfl, ow, hst, ri, hrl, q⟩ := h
    refine ⟨_, (pss_cons (ps_if (pt_val (C8.pe_mt0 c_is_empty hr (by decide) (pe_fld (pv 0) rfl))) (pss_cons (ps_augS (pe_fld (pv 0) rfl) (C8.pe_gc rfl T.k_IDLE) get_list pe_int ip_add set_list)
      (pss_one (ps_ret (pe_lst pa_nil)))) pss_nil)
      (pss_cons (ps_augS (pe_fld (pv 0) rfl) (C8.pe_gc rfl T.k_WORKED) get_list pe_int ip_add set_list)
      (pss_cons (ps_set (i := 1) nd rfl (Or.inl rfl) (C8.pe_mt0 c_jspend hr (by decide) (pe_fld (pv 0) rfl)))
      (pss_one (ps_ret (pe_ifExp (pt_cmpR op_isN (pv 1) pe_non (nomark _)) (pe_lst pa_nil) (pe_lst (pa_cons (pe_tup (pa_cons pe_str (pa_cons (pv 1) pa_nil))) pa_nil)))))))), ?_⟩
    obtain ⟨sv, rv, L, h1, h2, ob, sp, bk⟩ := ow.lens
    have hpr := sp.c0
    have j1 := sp.c2
    rw [spendA_nil hst] at q
    refine ⟨_, rfl, _, _, _, _, _, rfl, hpr, T.cl_Processor, T.t_Processor_jobs, rfl, P.jo, P.dj, _, rfl, j1, rfl, P.jo, P.dj, P.rk, P.ln, P.ro, rv, rfl, j1, sp.c3, rv.isEmpty, rfl, ?_⟩
    cases hrv : p.rows with
    | nil =>
      have h2' := h2
      rw [hrv] at h2' q
      simp only at q
      cases h2'
      refine iteT ?_
      refine ⟨_, rfl, _, _, _, _, _, rfl, hpr, T.cl_Processor, T.t_Processor_counts, rfl, _, _, 3, _, rfl, rfl, l_of sp.c4, rfl, _, _, rfl, rfl, ?_⟩
      refine ⟨_, _, _, 3, rfl, rfl, sp.c4, rfl, ?_⟩
      have sp1 := sp.put4 (y := .lst [.int p.c0, .int p.c1, .int p.c2, .int (p.c3 + 1)])
      refine ⟨Nat.zero_le _, fun a hp => ?_⟩
      have sp2 := sp1.keep (o := .lst []) hp
      have g := sp1.newk (o := .lst []) hp
      exact q _ _ a [] g (bk (p' := { p with c3 := p.c3 + 1, rows := [] }) g (h1.mono fun _ _ z => CallAt.up g z) .nil sp2) upd_same .nil
    | cons r rows =>
      obtain ⟨n, t⟩ := r
      have h2' := h2
      rw [hrv] at h2' ri hrl q
      simp only at q
      have hne : rv.isEmpty = false := by cases h2' with | cons _ _ => rfl
      rw [hne]
      refine iteF ?_
      refine ⟨_, rfl, _, _, _, _, _, rfl, hpr, T.cl_Processor, T.t_Processor_counts, rfl, _, _, 2, _, rfl, rfl, l_of sp.c4, rfl, _, _, rfl, rfl, ?_⟩
      refine ⟨_, _, _, 2, rfl, rfl, sp.c4, rfl, ?_⟩
      have sp1 := sp.put4 (y := .lst [.int p.c0, .int p.c1, .int (p.c2 + 1), .int p.c3])
      have hpr1 := sp1.c0
      have j11 := sp1.c2
      refine ⟨_, rfl, _, _, _, _, _, rfl, hpr1, T.cl_Processor, T.t_Processor_jobs, rfl, P.jo, P.dj, _, rfl, j11, rfl, P.jo, P.dj, P.rk, P.ln, P.ro, S.ws, rv, n, t, rows, K0, _, rfl, ow.fj, ri, h2', by simp at hrl; omega, sp1.upQ, fun hlt K1 H1 rv1 g1 hp1 sp2 => ?_, fun hlt H1 rv1 hp1 sp2 => ?_⟩
      · simp only [hlt, if_true] at q
        refine ⟨_, rfl, rfl, true, rfl, iteT ⟨Nat.zero_le _, fun a hp => ?_⟩⟩
        have sp3 := sp2.dnQ.keep (o := .lst []) hp
        have g2 := sp2.dnQ.newk (o := .lst []) hp
        have g := Same.tr g1 g2
        exact q _ _ a [] g (bk (p' := { p with c2 := p.c2 + 1, rows := (n, t + 1) :: rows }) g (h1.mono fun _ _ z => CallAt.up g z) (hp1.mono fun _ _ z => RowAt.up g2 z) sp3) upd_same .nil
      · simp only [hlt, if_false] at q
        refine ⟨_, rfl, rfl, false, rfl, iteF ⟨_, rfl, small8 (by simp), fun t2 ht2 => ?_⟩⟩
        have sp3 := sp2.dnQ.keep (o := .tup [.str "done", .str n]) ht2
        have g2 := sp2.dnQ.newk (o := .tup [.str "done", .str n]) ht2
        refine ⟨small8 (by simp), fun a hp => ?_⟩
        have sp4 := sp3.keep (o := .lst [.ref t2]) hp
        have g3 := sp3.newk (o := .lst [.ref t2]) hp
        have g := Same.tr g2 g3
        exact q _ _ a [.ref t2] g (bk (p' := { p with c2 := p.c2 + 1, rows := rows }) g (h1.mono fun _ _ z => CallAt.up g z) (hp1.mono fun _ _ z => RowAt.up g z) sp4) upd_same (.cons ⟨t2, rfl, t_of (g3 _ _ upd_same)⟩ .nil)
abbrev N_Processor_spend : List Str := ["self", "line", "step", "ticks", "kept", "word", "what"]
theorem sc_Processor_spend : FnScope N_Processor_spend ["self"] (C8.fnScope s_Processor_spend) := C8.fnScope_by (by decide +kernel)
theorem ok_Processor_spend {fd : FuncData} (T : Txt K mg) (F : FunD K "_spend" "Processor._spend" (C8.fnArgs s_Processor_spend) (C8.fnBody s_Processor_spend) (C8.fnScope s_Processor_spend) [] [] (He.ma K (aC "Processor" K) "_spend") fd) (c_spend_beside_calls : C8.Met P w K mg base 2 (aC "Processor" K) "_spend_beside_calls" (sp_Processor_spend_beside_calls K) []) (c_present_step : C8.Met P w K mg base 4 (aC "Processor" K) "_present_step" (sp_Processor_present_step K) []) (c_go_through : C8.Met P w K mg base 15 (aC "Processor" K) "_go_through" (sp_Processor_go_through K) []) :
    C8.Met P w K mg base 16 (aC "Processor" K) "_spend" (sp_Processor_spend K) [] := by
  refine C8.met0 T.cl_Processor T.m_Processor_spend (fun_c8 F) (F.bindsN fun _ _ _ _ _ _ us hl => match us, hl with | [_], _ => rfl) sc_Processor_spend (fun vs H Q E h => ?_) (fun cdv A outer s H vs Q E hr h => ?_)
  · obtain ⟨_, _, _, _, _, _, _, rfl, _⟩ := h
    rfl
  · have nd := sc_Processor_spend.nd
    have hu := hu_of hr
    obtain ⟨A, P, S, K0, b, p, M, rfl, ow, hcs, ri, hrl, hsl, hrg, q⟩ := h
    refine ⟨_, (pss_cons (ps_if (pt_not (pt_truth (pe_fld (pv 0) rfl) (by intro _; rfl))) (pss_one (ps_ret (C8.pe_mt0 c_spend_beside_calls hr (by decide) (pv 0)))) pss_nil)
      (pss_cons (ps_asg (pe_ix ix_list (pe_fld (pv 0) rfl) (pe_un un_neg pe_int) (fun _ _ => rfl)) (pg_tup rfl (pgs_cons (pg_name (i := 1) nd rfl (Or.inl rfl)) (pgs_cons (pg_name (i := 2) nd rfl (Or.inl rfl)) (pgs_cons (pg_name (i := 3) nd rfl (Or.inl rfl)) (pgs_cons (pg_name (i := 4) nd rfl (Or.inl rfl)) pgs_nil))))))
      (pss_cons (ps_asg (C8.pe_mt0 c_present_step hr (by decide) (pv 0)) (pg_tup rfl (pgs_cons (pg_name (i := 5) nd rfl (Or.inl rfl)) (pgs_cons (pg_name (i := 6) nd rfl (Or.inl rfl)) pgs_nil))))
      (pss_cons (ps_if (pt_cmpR op_eq (pv 5) pe_str (nomark _)) (pss_cons (ps_augS (pe_fld (pv 0) rfl) (C8.pe_gc rfl T.k_SPUN) get_list pe_int ip_add set_list)
      (pss_one (ps_ret (pe_lst pa_nil)))) pss_nil)
      (pss_cons (ps_augS (pe_fld (pv 0) rfl) (C8.pe_gc rfl T.k_CALLED) get_list pe_int ip_add set_list)
      (pss_cons (ps_if (pt_cmpR op_lt (pe_op op_add (pv 3) pe_int) (pv 6) (nomark _)) (pss_cons (ps_asg (pe_tup (pa_cons (pv 1) (pa_cons (pv 2) (pa_cons (pe_op op_add (pv 3) pe_int) (pa_cons (pv 4) pa_nil))))) (pg_sub (pe_fld (pv 0) rfl) (pe_un un_neg pe_int) set_list))
      (pss_one (ps_ret (pe_lst pa_nil)))) pss_nil)
      (pss_cons (ps_asg (pe_tup (pa_cons (pv 1) (pa_cons (pe_op op_add (pv 2) pe_int) (pa_cons pe_int (pa_cons (pv 4) pa_nil))))) (pg_sub (pe_fld (pv 0) rfl) (pe_un un_neg pe_int) set_list))
      (pss_one (ps_ret (C8.pe_mt0 c_go_through hr (by decide) (pv 0))))))))))), ?_⟩
    obtain ⟨sv, rv, L, h1, h2, ob, sp, bk⟩ := ow.lens
    have hpr := sp.c0
    rcases List.eq_nil_or_concat p.stack with e1 | ⟨rest, c, e1⟩
    · have h1' := h1
      rw [e1] at h1'
      cases h1'
      refine ⟨_, rfl, _, _, _, _, _, rfl, hpr, T.cl_Processor, T.t_Processor_stack, rfl, false, .inl ⟨_, l_of sp.c1, rfl⟩, iteT ?_⟩
      exact ⟨_, rfl, P.pr, P.dp, _, rfl, hpr, rfl, A, P, S, K0, b, p, M, rfl, ow, e1, ri, hrl, q⟩
    rw [List.concat_eq_append] at e1
    have h1' := h1
    rw [e1] at h1'
    obtain ⟨sv', v, e2, h4, t, rfl, ht⟩ := psnoc h1'
    have hco := hcs c (by rw [e1]; simp)
    have hc3 := sp.c1
    rw [e2] at hc3
    refine ⟨_, rfl, _, _, _, _, _, rfl, hpr, T.cl_Processor, T.t_Processor_stack, rfl, true, .inl ⟨_, l_of hc3, by simp⟩, iteF ?_⟩
    refine ⟨_, rfl, _, _, _, _, _, rfl, hpr, T.cl_Processor, T.t_Processor_stack, rfl, _, rfl, _, _, _, _, rfl, rfl, l_of hc3, atIm, ?_⟩
    refine ⟨_, _, rfl, Same.tup sp.ext ht, rfl, _, _, rfl, _, _, rfl, _, _, rfl, _, _, rfl, rfl, ?_⟩
    rcases hco.st with ⟨n, hn, hn0, hn1⟩ | ⟨f, hf, hz⟩
    · rw [spendA_run e1 hn] at q
      refine ⟨_, rfl, P.pr, P.dp, _, rfl, hpr, rfl, A, P, S, K0, b, p, M, rest, c, .run n, rfl, ow, e1, hco.ln, hn, fun v H1 g1 hv => ?_⟩
      obtain ⟨a, rfl, ha⟩ := hv
      have sp1 := sp.grow g1
      have hpr1 := sp1.c0
      have hc31 := g1 _ _ hc3
      refine ⟨_, _, rfl, Same.tup sp1.ext ha, rfl, _, _, rfl, _, _, rfl, rfl, ?_⟩
      refine ⟨_, rfl, rfl, false, rfl, iteF ?_⟩
      refine ⟨_, rfl, _, _, _, _, _, rfl, hpr1, T.cl_Processor, T.t_Processor_counts, rfl, _, _, 0, _, rfl, rfl, l_of sp1.c4, rfl, _, _, rfl, rfl, ?_⟩
      refine ⟨_, _, _, 0, rfl, rfl, sp1.c4, rfl, ?_⟩
      have sp2 := sp1.put4 (y := .lst [.int (p.c0 + 1), .int p.c1, .int p.c2, .int p.c3])
      have hpr2 := sp2.c0
      refine ⟨_, rfl, _, _, rfl, rfl, _, rfl, _, _, rfl, rfl, decide (c.ticks + 1 < n), rfl, ?_⟩
      by_cases hlt : c.ticks + 1 < n
      · rw [decide_eq_true hlt]
        simp only [hlt, if_true] at q
        refine iteT ⟨_, rfl, _, rfl, _, rfl, _, _, rfl, rfl, _, rfl, small8 (by simp), fun t2 ht2 => ?_⟩
        have sp3 := sp2.keep (o := .tup [.str c.line.name, .int (c.step : Nat), .int (c.ticks + 1), .int c.kept]) ht2
        have g3 := sp2.newk (o := .tup [.str c.line.name, .int (c.step : Nat), .int (c.ticks + 1), .int c.kept]) ht2
        have hpr3 := sp3.c0
        have hc33 := sp3.c1
        rw [e2] at hc33
        refine ⟨_, rfl, _, _, _, _, _, rfl, hpr3, T.cl_Processor, T.t_Processor_stack, rfl, _, rfl, _, _, _, _, rfl, rfl, hc33, ixNm, ?_⟩
        rw [set_last]
        have sp4 := sp3.put1 (y := .lst (sv' ++ [V.ref t2]))
        refine ⟨Nat.zero_le _, fun a hp => ?_⟩
        have sp5 := sp4.keep (o := .lst []) hp
        have g5 := sp4.newk (o := .lst []) hp
        have g := Same.tr g3 g5
        exact q _ _ a [] g (bk (p' := { p with c0 := p.c0 + 1, stack := rest ++ [⟨c.line, c.step, c.ticks + 1, c.kept⟩] }) g (Paired.snoc (h4.mono fun _ _ z => CallAt.up g z) ⟨t2, rfl, t_of (g5 _ _ upd_same)⟩) (h2.mono fun _ _ z => RowAt.up g z) sp5) upd_same .nil
      · rw [decide_eq_false hlt]
        simp only [hlt, if_false] at q
        refine iteF ?_
        refine ⟨_, rfl, _, rfl, _, _, rfl, rfl, _, rfl, small8 (by simp), fun t2 ht2 => ?_⟩
        have sp3 := sp2.keep (o := .tup [.str c.line.name, .int ((c.step + 1 : Nat)), .int 0, .int c.kept]) ht2
        have g3 := sp2.newk (o := .tup [.str c.line.name, .int ((c.step + 1 : Nat)), .int 0, .int c.kept]) ht2
        have hpr3 := sp3.c0
        have hc33 := sp3.c1
        rw [e2] at hc33
        refine ⟨_, rfl, _, _, _, _, _, rfl, hpr3, T.cl_Processor, T.t_Processor_stack, rfl, _, rfl, _, _, _, _, rfl, rfl, hc33, ixNm, ?_⟩
        rw [set_last]
        have sp4 := sp3.put1 (y := .lst (sv' ++ [V.ref t2]))
        have hpr4 := sp4.c0
        have ow4 : Own K A P S _ _ b { p with c0 := p.c0 + 1, stack := rest ++ [⟨c.line, c.step + 1, 0, c.kept⟩] } M := bk (p' := { p with c0 := p.c0 + 1, stack := rest ++ [⟨c.line, c.step + 1, 0, c.kept⟩] }) g3 (Paired.snoc (h4.mono fun _ _ z => CallAt.up g3 z) ⟨t2, rfl, t_of upd_same⟩) (h2.mono fun _ _ z => RowAt.up g3 z) sp4
        have hlt2 : c.step < c.line.steps.length := (List.getElem?_eq_some_iff.mp hn).1
        refine ⟨_, rfl, P.pr, P.dp, _, rfl, hpr4, rfl, A, P, S, _, b, _, M, rest, ⟨c.line, c.step + 1, 0, c.kept⟩, rfl, ow4, rfl, hco.ln, hlt2, ri, hrl, ?_, hrg, fun K1 H1 a ev g ow5 hp he => q K1 H1 a ev (Same.tr g3 g) ow5 hp he⟩
        rw [e1] at hsl
        simpa using hsl
    · rw [spendA_await e1 hf] at q
      refine ⟨_, rfl, P.pr, P.dp, _, rfl, hpr, rfl, A, P, S, K0, b, p, M, rest, c, .await f, rfl, ow, e1, hco.ln, hf, fun v H1 g1 hv => ?_⟩
      obtain ⟨a, rfl, ha⟩ := hv
      have sp1 := sp.grow g1
      have hpr1 := sp1.c0
      refine ⟨_, _, rfl, Same.tup sp1.ext ha, rfl, _, _, rfl, _, _, rfl, rfl, ?_⟩
      refine ⟨_, rfl, rfl, true, rfl, iteT ?_⟩
      refine ⟨_, rfl, _, _, _, _, _, rfl, hpr1, T.cl_Processor, T.t_Processor_counts, rfl, _, _, 1, _, rfl, rfl, l_of sp1.c4, rfl, _, _, rfl, rfl, ?_⟩
      refine ⟨_, _, _, 1, rfl, rfl, sp1.c4, rfl, ?_⟩
      have sp2 := sp1.put4 (y := .lst [.int p.c0, .int (p.c1 + 1), .int p.c2, .int p.c3])
      refine ⟨Nat.zero_le _, fun a hp => ?_⟩
      have sp3 := sp2.keep (o := .lst []) hp
      have g := sp2.newk (o := .lst []) hp
      exact q _ _ a [] g (bk (p' := { p with c1 := p.c1 + 1 }) g (h1.mono fun _ _ z => CallAt.up g z) (h2.mono fun _ _ z => RowAt.up g z) sp3) upd_same .nil
end
end Cb

namespace Cb
open PySem PySem.Spec PyProof.Rows L2
theorem onA_no {ws : List WorkD} {b : BdD} {p : PrD} (h : passes b p = false) : ∀ n, onA ws n b p = (b, p, [])
  | 0 => rfl
  | n + 1 => by
    rw [onA, h]
    rfl
theorem onA_yes {ws : List WorkD} {b : BdD} {p : PrD} {n : Nat} (h : passes b p = true) : onA ws (n + 1) b p = ((onA ws n (goA ws b p).1 (goA ws b p).2.1).1, (onA ws n (goA ws b p).1 (goA ws b p).2.1).2.1, (goA ws b p).2.2 ++ (onA ws n (goA ws b p).1 (goA ws b p).2.1).2.2) := by
  rw [onA, if_pos h]
theorem passes_top {b : BdD} {p : PrD} (h : passes b p = true) : ∃ r c f, p.stack = r ++ [c] ∧ stepOf c = some (.await f) := by
  rcases List.eq_nil_or_concat p.stack with e1 | ⟨r, c, e1⟩
  · rw [passes_nil e1] at h
    cases h
  · rw [List.concat_eq_append] at e1
    cases e : stepOf c with
    | none =>
      unfold passes at h
      rw [e1, last_snoc] at h
      simp only [e] at h
      cases h
    | some st =>
      rw [passes_snoc e1 e] at h
      cases st with
      | await f => exact ⟨r, c, f, e1, e⟩
      | _ => cases h
def goOn (ws : List WorkD) (b : BdD) (p : PrD) : BdD × PrD × List Ev :=
  let y := onA ws p.stack.length b p
  let x := spendA ws y.1 y.2.1
  (x.1, x.2.1, y.2.2 ++ x.2.2)

def sp_Processor_go_on (K : PySem.W.Frag) : Sp := fun vs H Q _ => ∃ (A : AdB) (P : AdP) (S : SetD) (K0 : Hp) (b : BdD) (p : PrD) (M : List (Addr × HO)), vs = [.ref P.pr] ∧ Own K A P S K0 H b p M ∧ (∀ c ∈ p.stack, CallOk S c) ∧ RowsIn S.ws p.rows ∧ p.rows.length ≤ 700000 ∧ p.stack.length ≤ 13 ∧ b.rg.length ≤ 15000000 ∧
  PostE K A P S K0 M Q (goOn S.ws b p)
def sp_Processor_take (K : PySem.W.Frag) : Sp := fun vs H Q _ => ∃ (A : AdB) (P : AdP) (S : SetD) (K0 : Hp) (b : BdD) (p : PrD) (M : List (Addr × HO)) (lp : Addr) (ls : List LineD), vs = [.ref P.pr, .ref lp] ∧ Own K A P S K0 H b p M ∧ (∀ c ∈ p.stack, CallOk S c) ∧ RowsIn S.ws p.rows ∧ p.rows.length ≤ 800000 ∧ p.stack.length ≤ 800000 ∧ b.rg.length ≤ 15000000 ∧ K0 lp = some (.lst (nmsV ls)) ∧ (∀ l ∈ ls, l ∈ S.ls) ∧
  ∀ K1 H' a ev, Same K0 K1 → Own K A P S K1 H' (takeA S.ws b p ls).1 (takeA S.ws b p ls).2.1 ((a, .lst ev) :: M) → Paired (EvAt K K1) ev (takeA S.ws b p ls).2.2 → Q (.ref a) H'
theorem spendA_evs {ws : List WorkD} {b : BdD} {p : PrD} : (spendA ws b p).2.2.length ≤ 1 := by
  have g : ∀ (b : BdD) (p : PrD), (goA ws b p).2.2.length ≤ 1 := fun b p => by
    unfold goA
    split
    · simp
    · simp only
      split <;> simp
  unfold spendA
  split
  · split
    · simp
    · split <;> simp
  · split
    · simp
    · split
      · simp
      · exact g _ _
    · simp

section
variable {P : Program} {w : World} {K : PySem.W.Frag} {mg : Str → Option Value} {base : Heap}

abbrev N_Processor_go_on : List Str := ["self", "events"]
theorem sc_Processor_go_on : FnScope N_Processor_go_on ["self"] (C8.fnScope s_Processor_go_on) := C8.fnScope_by (by decide +kernel)
theorem ok_Processor_go_on {fd : FuncData} (T : Txt K mg) (F : FunD K "go_on" "Processor.go_on" (C8.fnArgs s_Processor_go_on) (C8.fnBody s_Processor_go_on) (C8.fnScope s_Processor_go_on) [] [] (He.ma K (aC "Processor" K) "go_on") fd) (c_passes_flag : C8.Met P w K mg base 5 (aC "Processor" K) "_passes_flag" (sp_Processor_passes_flag K) []) (c_go_through : C8.Met P w K mg base 15 (aC "Processor" K) "_go_through" (sp_Processor_go_through K) []) (c_pspend : C8.Met P w K mg base 16 (aC "Processor" K) "_spend" (sp_Processor_spend K) []) :
    C8.Met P w K mg base 17 (aC "Processor" K) "go_on" (sp_Processor_go_on K) [] := by
  refine C8.met0 T.cl_Processor T.m_Processor_go_on (fun_c8 F) (F.bindsN fun _ _ _ _ _ _ us hl => match us, hl with | [_], _ => rfl) sc_Processor_go_on (fun vs H Q E h => ?_) (fun cdv A outer s H vs Q E hr h => ?_)
  · obtain ⟨_, _, _, _, _, _, _, rfl, _⟩ := h
    rfl
  · have nd := sc_Processor_go_on.nd
    have hu := hu_of hr
    obtain ⟨A, P, S, K0, b, p, M, rfl, ow, hcs, ri, hrl, hsl, hrg, q⟩ := h
    refine ⟨_, (pss_cons (ps_set (i := 1) nd rfl (Or.inl rfl) (pe_lst pa_nil))
      (pss_cons (ps_while PassesOwn.never (pt_val (C8.pe_mt0 c_passes_flag hr (by decide) (pv 0))) (pss_one (ps_expr (pe_bm PySem.F.plainAttrs_list PySem.F.slot_list_extend PySem.F.type_list_extend mt_extend (pv 1) (pa_cons (C8.pe_mt0 c_go_through hr (by decide) (pv 0)) pa_nil)))))
      (pss_cons (ps_expr (pe_bm PySem.F.plainAttrs_list PySem.F.slot_list_extend PySem.F.type_list_extend mt_extend (pv 1) (pa_cons (C8.pe_mt0 c_pspend hr (by decide) (pv 0)) pa_nil)))
      (pss_one (ps_ret (pv 1)))))), ?_⟩
    refine ⟨Nat.zero_le _, fun a1 ha1 => ?_⟩
    obtain ⟨sv, rv, L, h1, h2, ob, sp, bk⟩ := ow.lens
    have ow1 : Own K A P S K0 _ b p ((a1, .lst []) :: M) := bk (p' := p) (M' := (a1, .lst []) :: M) (Same.refl K0) h1 h2 (sp.own (o := .lst []) ha1).dn5
    refine ⟨fun m σ H' => ∃ K' b' p' n ev evs, m = (if passes b' p' = true then p'.stack.length else 0) ∧ σ = [some (.ref P.pr), some (.ref a1)] ∧ Same K0 K' ∧ Own K A P S K' H' b' p' ((a1, .lst ev) :: M) ∧ Paired (EvAt K K') ev evs ∧ (∀ c ∈ p'.stack, CallOk S c) ∧ RowsIn S.ws p'.rows ∧ p'.rows.length ≤ p.rows.length + 8 * p.stack.length ∧ b'.rg.length ≤ b.rg.length + 8 * p.stack.length ∧ (passes b' p' = true → p'.rows.length + 8 * p'.stack.length ≤ p.rows.length + 8 * p.stack.length ∧ b'.rg.length + 8 * p'.stack.length ≤ b.rg.length + 8 * p.stack.length ∧ p'.stack.length ≤ n) ∧ evs.length + p'.stack.length ≤ p.stack.length ∧ (onA S.ws p.stack.length b p = ((onA S.ws n b' p').1, (onA S.ws n b' p').2.1, evs ++ (onA S.ws n b' p').2.2)), ⟨_, K0, b, p, p.stack.length, [], [], rfl, rfl, Same.refl K0, ow1, .nil, hcs, ri, Nat.le_add_right _ _, Nat.le_add_right _ _, fun _ => ⟨Nat.le_refl _, Nat.le_refl _, Nat.le_refl _⟩, by simp, rfl⟩, ?_⟩
    rintro m σ H1 ⟨K1, b1, p1, n, ev, evs, rfl, rfl, gg, ow2, hev, hcs1, ri1, rl1, rb1, pl1, el1, on1⟩
    obtain ⟨sv2, rv2, L2, k1, k2, ob2, sp2, bk2⟩ := ow2.lens
    refine ⟨_, rfl, P.pr, P.dp, _, rfl, sp2.c0, rfl, A, P, S, K1, b1, p1, _, rfl, ow2, fun c m => (hcs1 c m).stOk, fun H2 g2 => ⟨_, rfl, ?_⟩⟩
    have ow3 := ow2.grow g2
    have sp3 := sp2.grow g2
    cases hp : passes b1 p1 with
    | true =>
      obtain ⟨r, c, f, e1, ef⟩ := passes_top hp
      obtain ⟨pl2, plb, pl3⟩ := pl1 hp
      have hco := hcs1 c (by rw [e1]; simp)
      have hlt2 : c.step < c.line.steps.length := (List.getElem?_eq_some_iff.mp ef).1
      have ht0 : c.ticks = 0 := by
        rcases hco.st with ⟨z, hz, _⟩ | ⟨_, _, hz⟩
        · rw [ef] at hz
          cases hz
        · exact hz
      have sl : p1.stack.length = r.length + 1 := by rw [e1]; simp
      have G := goA_ok (b := b1) ow.ok e1 hco.ln (Nat.le_of_lt hlt2) ht0 (fun c' m => hcs1 c' (by rw [e1]; exact List.mem_append_left _ m)) ri1
      obtain ⟨n, rfl⟩ : ∃ n', n = n' + 1 := ⟨n - 1, by omega⟩
      rw [onA_yes hp] at on1
      refine iteT ?_
      refine ⟨fun σ' H' => ∃ K' b' p' n ev evs, (if passes b' p' = true then p'.stack.length else 0) < (if true = true then p1.stack.length else 0) ∧ σ' = [some (.ref P.pr), some (.ref a1)] ∧ Same K0 K' ∧ Own K A P S K' H' b' p' ((a1, .lst ev) :: M) ∧ Paired (EvAt K K') ev evs ∧ (∀ c ∈ p'.stack, CallOk S c) ∧ RowsIn S.ws p'.rows ∧ p'.rows.length ≤ p.rows.length + 8 * p.stack.length ∧ b'.rg.length ≤ b.rg.length + 8 * p.stack.length ∧ (passes b' p' = true → p'.rows.length + 8 * p'.stack.length ≤ p.rows.length + 8 * p.stack.length ∧ b'.rg.length + 8 * p'.stack.length ≤ b.rg.length + 8 * p.stack.length ∧ p'.stack.length ≤ n) ∧ evs.length + p'.stack.length ≤ p.stack.length ∧ (onA S.ws p.stack.length b p = ((onA S.ws n b' p').1, (onA S.ws n b' p').2.1, evs ++ (onA S.ws n b' p').2.2)), ?_, ?_⟩
      · rintro σ' H' ⟨K', b', p', n', ev', evs', hlt, e2, e3, e4, e5, e6, e7, e8, e8b, e9, e10, e11⟩
        exact ⟨_, hlt, K', b', p', n', ev', evs', rfl, e2, e3, e4, e5, e6, e7, e8, e8b, e9, e10, e11⟩
      have ha3 := sp3.up5.c0
      refine ⟨_, rfl, .inl ⟨rfl, _, .inl (.inl ha3)⟩, _, rfl, P.pr, P.dp, _, rfl, sp3.c0, rfl, A, P, S, K1, b1, p1, _, r, c, rfl, ow3, e1, hco.ln, Nat.le_of_lt hlt2, ri1, by omega, by omega, by omega, fun K2 H3 a ev2 g ow4 ha he => ?_⟩
      obtain ⟨sv4, rv4, L4, m1, m2, ob4, sp4, bk4⟩ := ow4.lens
      have hl1 := hev.length
      have hl2 := he.length
      have grg := goA_rg (b := b1) ow.ok e1 hco.ln
      obtain ⟨gc, gri, grl, gfl, gsl⟩ := G
      have ge : (goA S.ws b1 p1).2.2.length ≤ 1 := by
        rcases gsl with ⟨_, z⟩ | ⟨_, z, _⟩
        · omega
        · rw [z]
          simp
      refine ⟨_, _, _, _, rfl, rfl, sp4.up5.c0, sp4.ext _ _ ha, Nat.le_of_lt (sml (m := 100) (by omega) (by decide)), ?_⟩
      have sp5 := sp4.up5.put0 (o' := .lst (ev ++ ev2))
      have ow5 : Own K A P S K2 _ _ _ ((a1, .lst (ev ++ ev2)) :: M) := bk4 (Same.refl K2) m1 m2 sp5.dn5
      refine ⟨K2, _, _, n, ev ++ ev2, evs ++ (goA S.ws b1 p1).2.2, ?_, rfl, Same.tr gg g, ow5, papp he (hev.mono fun _ _ z => EvAt.up g z), gc, gri, by omega, by omega, fun hpp => ?_, ?_, ?_⟩
      · rw [if_pos rfl]
        rcases gsl with ⟨z, _⟩ | ⟨z, _, _⟩
        · rw [z]
          split <;> omega
        · rw [z, if_neg (by simp)]
          omega
      · rcases gsl with ⟨z, _⟩ | ⟨z, _, _⟩
        · rw [z]
          omega
        · rw [hpp] at z
          cases z
      · rw [List.length_append]
        rcases gsl with ⟨z, y⟩ | ⟨_, y, z⟩
        · rw [z]
          omega
        · rw [y, z]
          simp
          omega
      · rw [on1, List.append_assoc]
    | false =>
      refine iteF ?_
      rw [onA_no hp, List.append_nil] at on1
      have ha3 := sp3.up5.c0
      refine ⟨_, rfl, .inl ⟨rfl, _, .inl (.inl ha3)⟩, _, rfl, P.pr, P.dp, _, rfl, sp3.c0, rfl, A, P, S, K1, b1, p1, _, rfl, ow3, hcs1, ri1, by omega, by omega, by omega, fun K2 H3 a ev2 g ow4 ha he => ?_⟩
      obtain ⟨sv4, rv4, L4, m1, m2, ob4, sp4, bk4⟩ := ow4.lens
      have hl1 := hev.length
      have hl2 := he.length
      have ge := spendA_evs (ws := S.ws) (b := b1) (p := p1)
      refine ⟨_, _, _, _, rfl, rfl, sp4.up5.c0, sp4.ext _ _ ha, Nat.le_of_lt (sml (m := 100) (by omega) (by decide)), ?_⟩
      have sp5 := sp4.up5.put0 (o' := .lst (ev ++ ev2))
      have g5 := sp5.new0
      unfold goOn at q
      simp only [on1] at q
      exact ⟨_, rfl, q _ _ a1 (ev ++ ev2) (Same.tr gg (Same.tr g g5)) (bk4 g5 (m1.mono fun _ _ z => CallAt.up g5 z) (m2.mono fun _ _ z => RowAt.up g5 z) sp5.freeze) upd_same (papp (he.mono fun _ _ z => EvAt.up g5 z) (hev.mono fun _ _ z => EvAt.up (Same.tr g g5) z))⟩
abbrev N_Processor_take : List Str := ["self", "lines", "line"]
theorem sc_Processor_take : FnScope N_Processor_take ["self", "lines"] (C8.fnScope s_Processor_take) := C8.fnScope_by (by decide +kernel)
theorem ok_Processor_take {fd : FuncData} (T : Txt K mg) (F : FunD K "take" "Processor.take" (C8.fnArgs s_Processor_take) (C8.fnBody s_Processor_take) (C8.fnScope s_Processor_take) [] [] (He.ma K (aC "Processor" K) "take") fd) (c_lets_by : C8.Met P w K mg base 4 (aC "Processor" K) "_lets_by" (sp_Processor_lets_by K) []) (c_begin : C8.Met P w K mg base 7 (aC "HouseBoard" K) "begin" (sp_HouseBoard_begin K) []) (c_go_through : C8.Met P w K mg base 15 (aC "Processor" K) "_go_through" (sp_Processor_go_through K) []) :
    C8.Met P w K mg base 16 (aC "Processor" K) "take" (sp_Processor_take K) [] := by
  refine C8.met0 T.cl_Processor T.m_Processor_take (fun_c8 F) (F.bindsN fun _ _ _ _ _ _ us hl => match us, hl with | [_, _], _ => rfl) sc_Processor_take (fun vs H Q E h => ?_) (fun cdv A outer s H vs Q E hr h => ?_)
  · obtain ⟨_, _, _, _, _, _, _, _, _, rfl, _⟩ := h
    rfl
  · have nd := sc_Processor_take.nd
    have hu := hu_of hr
    obtain ⟨A, P, S, K0, b, p, M, lp, ls, rfl, ow, hcs, ri, hrl, hsl, hrg, hlp, hls, q⟩ := h
    refine ⟨_, (pss_cons (ps_if (PW.pt (pw_or (pt_not (pt_truth (pv 1) (by intro _; rfl))) (pw_or1 (pt_not (pt_val (C8.pe_mt c_lets_by hr (by decide) (pv 0) (pa_cons (pe_ix ix_list (pv 1) pe_int (fun _ _ => rfl)) pa_nil))))))) (pss_one (ps_ret (pe_lst pa_nil))) pss_nil)
      (pss_cons (ps_set (i := 2) nd rfl (Or.inl rfl) (pe_ix ix_list (pv 1) pe_int (fun _ _ => rfl)))
      (pss_cons (ps_expr (C8.pe_mt c_begin hr (by decide) (pe_fld (pv 0) rfl) (pa_cons (pv 2) pa_nil)))
      (pss_cons (ps_expr (pe_bm PySem.F.plainAttrs_list PySem.F.slot_list_append PySem.F.type_list_append mt_append (pe_fld (pv 0) rfl) (pa_cons (pe_tup (pa_cons (pv 2) (pa_cons pe_int (pa_cons pe_int (pa_cons (pe_fld (pv 0) rfl) pa_nil))))) pa_nil)))
      (pss_one (ps_ret (pe_lst (pa_cons (pe_tup (pa_cons pe_str (pa_cons (pv 2) pa_nil))) (StX.pa_star (C8.pe_mt0 c_go_through hr (by decide) (pv 0)) pa_nil))))))))), ?_⟩
    obtain ⟨sv, rv, L, h1, h2, ob, sp, bk⟩ := ow.lens
    have hpr := sp.c0
    have hlp1 := sp.ext _ _ hlp
    cases ls with
    | nil =>
      have q : ∀ K1 H' a ev, Same K0 K1 → Own K A P S K1 H' b p ((a, .lst ev) :: M) → Paired (EvAt K K1) ev [] → Q (.ref a) H' := q
      refine ⟨_, rfl, false, .inl ⟨_, l_of hlp1, rfl⟩, iteT ?_⟩
      refine ⟨Nat.zero_le _, fun a hp => ?_⟩
      exact q K0 _ a [] (Same.refl K0) (bk (p' := p) (M' := (a, .lst []) :: M) (Same.refl K0) h1 h2 (sp.own (o := .lst []) hp).dn5) .nil
    | cons l ls =>
    have hl := hls l List.mem_cons_self
    refine ⟨_, rfl, true, .inl ⟨_, l_of hlp1, rfl⟩, iteF ?_⟩
    refine ⟨_, rfl, P.pr, P.dp, _, rfl, hpr, rfl, _, rfl, _, _, _, _, rfl, rfl, l_of hlp1, atIn (n := 0) rfl, A, P, S, K0, b, p, M, l, rfl, ow, hl, fun c m => (hcs c m).ln, _, rfl, ?_⟩
    by_cases hb : floorA p < l.rank
    · rw [decide_eq_true hb]
      have tk : takeA S.ws b p (l :: ls) = ((goA S.ws (beginB b l) { p with stack := p.stack ++ [⟨l, 0, 0, p.bar⟩] }).1, (goA S.ws (beginB b l) { p with stack := p.stack ++ [⟨l, 0, 0, p.bar⟩] }).2.1, .bgn l :: (goA S.ws (beginB b l) { p with stack := p.stack ++ [⟨l, 0, 0, p.bar⟩] }).2.2) := if_pos hb
      rw [tk] at q
      refine iteF ?_
      refine ⟨_, rfl, _, _, _, _, rfl, rfl, l_of hlp1, atIn (n := 0) rfl, ?_⟩
      have hbo := ob.obj
      refine ⟨_, rfl, _, _, _, _, _, rfl, hpr, T.cl_Processor, T.t_Processor_board, rfl, A.bo, A.db, _, rfl, hbo, rfl, _, rfl, A, S, l, K0, b, _, rfl, ob, hl, fun KB H1 gB owb => ?_⟩
      have owX := ow.ob gB (p' := p) (h1.mono fun _ _ z => CallAt.up gB z) (h2.mono fun _ _ z => RowAt.up gB z) owb
      obtain ⟨sv, rv, L, h1, h2, ob1, sp1, bk1⟩ := owX.lens
      have hpr1 := sp1.c0
      refine ⟨_, rfl, _, _, _, _, _, rfl, hpr1, T.cl_Processor, T.t_Processor_stack, rfl, .inl ⟨rfl, _, .inl (.inl sp1.c1)⟩, _, rfl, _, rfl, _, _, _, _, _, rfl, hpr1, T.cl_Processor, T.t_Processor_bar, rfl, small8 (by simp), fun t2 ht2 => ?_⟩
      have sp2 := sp1.keep (o := .tup [.str l.name, .int 0, .int 0, .int p.bar]) ht2
      have g2 := sp1.newk (o := .tup [.str l.name, .int 0, .int 0, .int p.bar]) ht2
      refine ⟨_, _, _, rfl, rfl, sp2.c1, sm6 (by have := h1.length; omega), ?_⟩
      have sp3 := sp2.put1 (y := .lst (sv ++ [V.ref t2]))
      refine ⟨_, rfl, small8 (by simp), fun t3 ht3 => ?_⟩
      have sp4 := sp3.keep (o := .tup [.str "begin", .str l.name]) ht3
      have g4 := sp3.newk (o := .tup [.str "begin", .str l.name]) ht3
      have g := Same.tr g2 g4
      have ow4 : Own K A P S _ _ (beginB b l) { p with stack := p.stack ++ [⟨l, 0, 0, p.bar⟩] } M := bk1 (p' := { p with stack := p.stack ++ [⟨l, 0, 0, p.bar⟩] }) g (Paired.snoc (h1.mono fun _ _ z => CallAt.up g z) ⟨t2, rfl, t_of (g4 _ _ upd_same)⟩) (h2.mono fun _ _ z => RowAt.up g z) sp4
      have G := goA_ok (b := beginB b l) (p := { p with stack := p.stack ++ [⟨l, 0, 0, p.bar⟩] }) ow.ok rfl hl (Nat.zero_le _) rfl hcs ri
      have ge : (goA S.ws (beginB b l) { p with stack := p.stack ++ [⟨l, 0, 0, p.bar⟩] }).2.2.length ≤ 1 := by
        rcases G.sl with ⟨_, z⟩ | ⟨_, z, _⟩
        · omega
        · rw [z]
          simp
      refine ⟨_, rfl, P.pr, P.dp, _, rfl, sp4.c0, rfl, A, P, S, _, _, _, M, p.stack, ⟨l, 0, 0, p.bar⟩, rfl, ow4, rfl, hl, Nat.zero_le _, ri, (show p.rows.length ≤ 900000 by omega), (by simp; omega), (show b.rg.length ≤ 15900000 by omega), fun K1 H2 a ev g5 ow5 hp he => ?_⟩
      obtain ⟨sv5, rv5, L5, m1, m2, ob5, sp5, bk5⟩ := ow5.lens
      have hlen := he.length
      refine ⟨a, ev, rfl, .inr (l_of (sp5.ext _ _ hp)), Nat.le_of_lt (sml (m := 9) (by simp; omega) (by decide)), fun z hz => ?_⟩
      have sp6 := sp5.own (o := .lst (.ref t3 :: (ev ++ []))) hz
      refine q K1 _ z _ (Same.tr gB (Same.tr g g5)) (bk5 (Same.refl K1) m1 m2 sp6.dn5) ?_
      rw [List.append_nil]
      exact .cons ⟨t3, rfl, t_of (g5 _ _ upd_same)⟩ he
    · rw [decide_eq_false hb]
      have tk : takeA S.ws b p (l :: ls) = (b, p, []) := if_neg hb
      rw [tk] at q
      refine iteT ?_
      refine ⟨Nat.zero_le _, fun a hp => ?_⟩
      exact q K0 _ a [] (Same.refl K0) (bk (p' := p) (M' := (a, .lst []) :: M) (Same.refl K0) h1 h2 (sp.own (o := .lst []) hp).dn5) .nil
end
end Cb

namespace Cb
open PySem PySem.Spec PyProof.Rows L2

theorem List.reverseRecOn' {α : Type} {motive : List α → Prop} (m : List α) (nil : motive []) (snoc : ∀ l x, motive l → motive (l ++ [x])) : motive m := by
  rw [← List.reverse_reverse m]
  induction m.reverse with
  | nil => exact nil
  | cons x l ih => rw [List.reverse_cons]; exact snoc _ _ ih

theorem Sep.obj {K0 H : Hp} {L : List (Addr × HO)} (s : Sep K0 H L) {x dx : Addr} {o o' : HO} (h : H x = none) (h' : H dx = none) (ne : dx ≠ x) : Sep K0 (upd (upd H dx o) x o') ((x, o') :: L) := by
  refine (s.drop h').own ?_
  rw [upd_ne (Ne.symm ne)]
  exact h
def C3At (K : PySem.W.Frag) (H : Hp) (v : V) (c : CallD) : Prop := ∃ t, v = .ref t ∧ SqT K H t [.str c.line.name, .int (c.step : Nat), .int c.ticks]
theorem C3At.up {K : PySem.W.Frag} {H H' : Hp} {v : V} {r : CallD} (e : Same H H') (h : C3At K H v r) : C3At K H' v r := h.elim fun a h => ⟨a, h.1, Same.tup e h.2⟩
def sp_Processor_call_rows (K : PySem.W.Frag) : Sp := fun vs H Q _ => ∃ (A : AdB) (P : AdP) (S : SetD) (K0 : Hp) (b : BdD) (p : PrD) (M : List (Addr × HO)), vs = [.ref P.pr] ∧ Own K A P S K0 H b p M ∧ p.stack.length ≤ 900000 ∧
  ∀ K1 H' a ev, Same K0 K1 → Own K A P S K1 H' b p ((a, .lst ev) :: M) → Paired (C3At K K1) ev p.stack → Q (.ref a) H'
def sp_Processor_work_rows (K : PySem.W.Frag) : Sp := fun vs H Q _ => ∃ (A : AdB) (P : AdP) (S : SetD) (K0 : Hp) (b : BdD) (p : PrD) (M : List (Addr × HO)), vs = [.ref P.pr] ∧ Own K A P S K0 H b p M ∧ p.rows.length ≤ 900000 ∧
  ∀ H' a ev, Own K A P S K0 H' b p ((a, .lst ev) :: M) → Paired (RowAt K K0) ev p.rows → Q (.ref a) H'
def sp_Processor_bar_now (K : PySem.W.Frag) : Sp := fun vs H Q _ => ∃ (A : AdB) (P : AdP) (S : SetD) (K0 : Hp) (b : BdD) (p : PrD) (M : List (Addr × HO)), vs = [.ref P.pr] ∧ Own K A P S K0 H b p M ∧ Q (.int p.bar) H
def pr0 : PrD := ⟨0, [], [], 0, 0, 0, 0⟩
def sp_Processor_init (K : PySem.W.Frag) : Sp := fun vs H Q _ => ∃ (x dx : Addr) (A : AdB) (S : SetD) (K0 : Hp) (b : BdD) (M : List (Addr × HO)), vs = [.ref x, .ref A.su, .ref A.bo] ∧ OwnB K A S K0 H b ((x, .ins (aC "Processor" K) dx []) :: M) ∧
  ∀ K1 H' P, Same K0 K1 → P.pr = x → Own K A P S K1 H' b pr0 M → Q .non H'
def handR (ws : List WorkD) (rows moving : List (Str × Int)) : List (Str × Int) := moving.foldl (fun r x => putR ws r x.1 x.2) rows
theorem handR_snoc {ws : List WorkD} {rows m : List (Str × Int)} {i : Nat} {x : Str × Int} (h : m[i]? = some x) : handR ws rows (m.take (i + 1)) = putR ws (handR ws rows (m.take i)) x.1 x.2 := by
  rw [take_snoc h]
  unfold handR
  rw [List.foldl_append]
  rfl
theorem handR_in {ws : List WorkD} {rows : List (Str × Int)} (h : RowsIn ws rows) : ∀ {m : List (Str × Int)}, RowsIn ws m → RowsIn ws (handR ws rows m) := by
  intro m
  induction m using List.reverseRecOn' with
  | nil => intro _; exact h
  | snoc l x ih =>
    intro hm
    unfold handR
    rw [List.foldl_append]
    obtain ⟨w, hw, e⟩ := hm x (by simp)
    show RowsIn ws (putR ws (handR ws rows l) x.1 x.2)
    rw [← e]
    exact putR_in (ih fun r m => hm r (List.mem_append_left _ m)) hw
theorem handR_len {ws : List WorkD} {rows : List (Str × Int)} : ∀ {m : List (Str × Int)}, (handR ws rows m).length ≤ rows.length + m.length := by
  intro m
  induction m using List.reverseRecOn' with
  | nil => exact Nat.le_refl _
  | snoc l x ih =>
    unfold handR
    rw [List.foldl_append]
    have z := putR_len (ws := ws) (rows := handR ws rows l) (n := x.1) (x := x.2)
    show (putR ws (handR ws rows l) x.1 x.2).length ≤ _
    rw [List.length_append]
    simp
    omega
def sp_Processor_hand_over_works (K : PySem.W.Frag) : Sp := fun vs H Q _ => ∃ (A : AdB) (P P2 : AdP) (S : SetD) (K0 : Hp) (b : BdD) (p p2 : PrD) (sv2 rv2 : List V) (M : List (Addr × HO)), vs = [.ref P.pr, .ref P2.pr] ∧ Own K A P S K0 H b p (layP K A P2 p2 sv2 rv2 M) ∧
  JobsK K0 P2.rk P2.ln S.ws ∧ Paired (CallAt K K0) sv2 p2.stack ∧ Paired (RowAt K K0) rv2 p2.rows ∧ RowsIn S.ws p.rows ∧ RowsIn S.ws p2.rows ∧ p.rows.length + p2.rows.length ≤ 900000 ∧
  ∀ K1 H' ro' rv2', Same K0 K1 → Paired (RowAt K K1) rv2' (handR S.ws p2.rows p.rows) → Own K A { P with ro := ro' } S K1 H' b { p with rows := [] } (layP K A P2 { p2 with rows := handR S.ws p2.rows p.rows } sv2 rv2' M) → Q .non H'

section
variable {P : Program} {w : World} {K : PySem.W.Frag} {mg : Str → Option Value} {base : Heap}

abbrev N_Processor_bar_now : List Str := ["self"]
theorem sc_Processor_bar_now : FnScope N_Processor_bar_now ["self"] (C8.fnScope s_Processor_bar_now) := C8.fnScope_by (by decide +kernel)
theorem ok_Processor_bar_now {fd : FuncData} (T : Txt K mg) (F : FunD K "bar_now" "Processor.bar_now" (C8.fnArgs s_Processor_bar_now) (C8.fnBody s_Processor_bar_now) (C8.fnScope s_Processor_bar_now) [] [] (He.ma K (aC "Processor" K) "bar_now") fd) :
    C8.Met P w K mg base 1 (aC "Processor" K) "bar_now" (sp_Processor_bar_now K) [] := by
  refine C8.met0 T.cl_Processor T.m_Processor_bar_now (fun_c8 F) (F.bindsN fun _ _ _ _ _ _ us hl => match us, hl with | [_], _ => rfl) sc_Processor_bar_now (fun vs H Q E h => ?_) (fun cdv A outer s H vs Q E hr h => ?_)
  · obtain ⟨_, _, _, _, _, _, _, rfl, _⟩ := h
    rfl
  · have nd := sc_Processor_bar_now.nd
    have hu := hu_of hr
    obtain ⟨A, P, S, K0, b, p, M, rfl, ow, q⟩ := h
    refine ⟨_, (pss_one (ps_ret (pe_fld (pv 0) rfl))), ?_⟩
    have hpr := ow.prc
    exact ⟨_, rfl, _, _, _, _, _, rfl, hpr, T.cl_Processor, T.t_Processor_bar, rfl, q⟩
abbrev N_Processor_work_rows : List Str := ["self"]
theorem sc_Processor_work_rows : FnScope N_Processor_work_rows ["self"] (C8.fnScope s_Processor_work_rows) := C8.fnScope_by (by decide +kernel)
theorem ok_Processor_work_rows {fd : FuncData} (T : Txt K mg) (F : FunD K "work_rows" "Processor.work_rows" (C8.fnArgs s_Processor_work_rows) (C8.fnBody s_Processor_work_rows) (C8.fnScope s_Processor_work_rows) [] [] (He.ma K (aC "Processor" K) "work_rows") fd) (c_jrows : C8.Met P w K mg base 1 (aC "WorkQueue" K) "rows" (sp_WorkQueue_rows K) []) :
    C8.Met P w K mg base 2 (aC "Processor" K) "work_rows" (sp_Processor_work_rows K) [] := by
  refine C8.met0 T.cl_Processor T.m_Processor_work_rows (fun_c8 F) (F.bindsN fun _ _ _ _ _ _ us hl => match us, hl with | [_], _ => rfl) sc_Processor_work_rows (fun vs H Q E h => ?_) (fun cdv A outer s H vs Q E hr h => ?_)
  · obtain ⟨_, _, _, _, _, _, _, rfl, _⟩ := h
    rfl
  · have nd := sc_Processor_work_rows.nd
    have hu := hu_of hr
    obtain ⟨A, P, S, K0, b, p, M, rfl, ow, hl, q⟩ := h
    refine ⟨_, (pss_one (ps_ret (C8.pe_mt0 c_jrows hr (by decide) (pe_fld (pv 0) rfl)))), ?_⟩
    obtain ⟨sv, rv, L, h1, h2, ob, sp, bk⟩ := ow.lens
    have hpr := sp.c0
    refine ⟨_, rfl, _, _, _, _, _, rfl, hpr, T.cl_Processor, T.t_Processor_jobs, rfl, P.jo, P.dj, _, rfl, sp.c2, rfl, P.jo, P.dj, P.rk, P.ln, P.ro, rv, rfl, sp.c2, sp.c3, by have := h2.length; omega, fun a H1 g hp hp1 => ?_⟩
    exact q _ a rv (bk (p' := p) (M' := (a, .lst rv) :: M) (Same.refl K0) h1 h2 (sp.own' g hp hp1).dn5) h2
abbrev N_Processor_call_rows : List Str := ["self", "call"]
theorem sc_Processor_call_rows : FnScope N_Processor_call_rows ["self"] (C8.fnScope s_Processor_call_rows) := C8.fnScope_by (by decide +kernel)
theorem ok_Processor_call_rows {fd : FuncData} (T : Txt K mg) (F : FunD K "call_rows" "Processor.call_rows" (C8.fnArgs s_Processor_call_rows) (C8.fnBody s_Processor_call_rows) (C8.fnScope s_Processor_call_rows) [] [] (He.ma K (aC "Processor" K) "call_rows") fd) :
    C8.Met P w K mg base 1 (aC "Processor" K) "call_rows" (sp_Processor_call_rows K) [] := by
  refine C8.met0 T.cl_Processor T.m_Processor_call_rows (fun_c8 F) (F.bindsN fun _ _ _ _ _ _ us hl => match us, hl with | [_], _ => rfl) sc_Processor_call_rows (fun vs H Q E h => ?_) (fun cdv A outer s H vs Q E hr h => ?_)
  · obtain ⟨_, _, _, _, _, _, _, rfl, _⟩ := h
    rfl
  · have nd := sc_Processor_call_rows.nd
    have hu := hu_of hr
    obtain ⟨A, P, S, K0, b, p, M, rfl, ow, hl, q⟩ := h
    refine ⟨_, (pss_one (ps_ret (pe_lc (own := [("call", 1)]) rfl nd (pi_list (pe_fld (pv 0) rfl)) (blkOk_by (own := [("call", 1)]) (N := N_Processor_call_rows) (sc := (C8.fnScope s_Processor_call_rows)) (by decide +kernel)) (fun _ _ _ _ _ => (pg_name (i := 1) nd rfl (Or.inl rfl))) (fun _ _ _ _ _ => pts_nil) (fun _ _ _ _ _ => (pe_slice (sl_tup : SlR _ (rSlT K)) (pv 1) po_none (po_some pe_int)))))), ?_⟩
    obtain ⟨sv, rv, L, h1, h2, ob, sp, bk⟩ := ow.lens
    have hpr := sp.c0
    have hlen := h1.length
    refine ⟨_, rfl, _, _, _, _, _, rfl, hpr, T.cl_Processor, T.t_Processor_stack, rfl, _, rfl, ⟨_, l_of sp.c1⟩, fun D hD => ?_⟩
    refine lc_it (walk_list (xs := sv)) (fun i H' => ∃ K' acc, Same K0 K' ∧ Sep K' H' ((D, .lst acc) :: layP K A P p sv rv (M ++ L)) ∧ Paired (C3At K K') acc (p.stack.take i)) ⟨K0, [], Same.refl _, sp.own hD, .nil⟩ ?_ ?_ ?_
    · rintro i H' _ ⟨K', acc, g, sp', _⟩
      exact l_of sp'.c2
    · rintro i v H1 H2 hi ⟨K', acc, g, sp', pr⟩ ⟨rfl, e2⟩
      obtain ⟨c, hc, t, rfl, ht⟩ := pget h1 e2
      have hlc := pr.length
      refine ⟨rfl, ⟨_, rfl, _, rfl, _, _, rfl, Same.tup (Same.tr g sp'.ext) ht, by simp [HT.sIx], fun a hp => ?_⟩⟩
      rw [cut3]
      have z := sp'.keep (o := .tup [.str c.line.name, .int (c.step : Nat), .int c.ticks]) hp
      have gz := sp'.newk (o := .tup [.str c.line.name, .int (c.step : Nat), .int c.ticks]) hp
      refine ⟨_, z.c0, sm6 (by simp at hlc; omega), _, _, Same.tr g gz, z.put0, ?_⟩
      rw [take_snoc hc]
      exact Paired.snoc (pr.mono fun _ _ z => C3At.up gz z) ⟨a, rfl, t_of upd_same⟩
    rintro H1 ⟨K', acc, g, sp', pr⟩
    rw [List.take_of_length_le (by omega)] at pr
    exact q _ _ D acc g (bk (p' := p) (M' := (D, .lst acc) :: M) g (h1.mono fun _ _ z => CallAt.up g z) (h2.mono fun _ _ z => RowAt.up g z) sp'.dn5) pr
abbrev N_Processor_init : List Str := ["self", "setup", "board"]
theorem sc_Processor_init : FnScope N_Processor_init ["self", "setup", "board"] (C8.fnScope s_Processor_init) := C8.fnScope_by (by decide +kernel)
theorem ok_Processor_init {fd : FuncData} (T : Txt K mg) (F : FunD K "__init__" "Processor.__init__" (C8.fnArgs s_Processor_init) (C8.fnBody s_Processor_init) (C8.fnScope s_Processor_init) [] [] (He.ma K (aC "Processor" K) "__init__") fd) (c_works : FnP P w K mg base 1 (prA "Setup" "works" K) (sp_Setup_works K)) (c_WorkQueue : C8.Mak P w K mg base 1 "WorkQueue" (aC "WorkQueue" K) (sp_WorkQueue_init K) []) :
    C8.Mak P w K mg base 4 "Processor" (aC "Processor" K) (sp_Processor_init K) [] := by
  refine C8.mak0 (ds := []) T.mk_Processor T.g_Processor (fun_c8 F) (F.bindsN fun _ _ _ _ _ _ us hl => match us, hl with | [_, _, _], _ => rfl) .nil sc_Processor_init (fun vs H Q E h => ?_) (fun cdv A outer s H vs Q E hr h => ?_)
  · obtain ⟨_, _, _, _, _, _, _, rfl, _⟩ := h
    rfl
  · have nd := sc_Processor_init.nd
    have hu := hu_of hr
    obtain ⟨x, dx, A, S, K0, b, M, rfl, ob, q⟩ := h
    obtain ⟨pw, hpw⟩ := T.p_Setup_works
    refine ⟨_, (pss_cons (ps_fld (pv 0) (pv 1) rfl)
      (pss_cons (ps_fld (pv 0) (pv 2) rfl)
      (pss_cons (ps_fld (pv 0) pe_int rfl)
      (pss_cons (ps_fld (pv 0) (pe_lst pa_nil) rfl)
      (pss_cons (ps_fld (pv 0) (C8.pe_mk c_WorkQueue hr (by decide) rfl (pa_cons (C_prop hpw T.cl_Setup c_works hr (by decide) (pv 1)) pa_nil)) rfl)
      (pss_one (ps_fld (pv 0) (pe_lst (pa_cons pe_int (pa_cons pe_int (pa_cons pe_int (pa_cons pe_int pa_nil))))) rfl))))))), ?_⟩
    obtain ⟨L, sp0, bkB⟩ := ob.lens
    have sp : Sep K0 H ((x, .ins (aC "Processor" K) dx []) :: (M ++ L)) := sp0
    obtain ⟨dx2, la, wa, bn, oa, xs, h3, h3b, h3c, _⟩ := ob.su.ex
    refine ⟨_, rfl, _, rfl, _, _, _, _, rfl, sp.c0, T.cl_Processor, T.t_Processor_setup, (by simp), ?_⟩
    have t1 := sp.put0 (o' := .ins (aC "Processor" K) dx [("_setup", .ref A.su)])
    refine ⟨_, rfl, _, rfl, _, _, _, _, rfl, t1.c0, T.cl_Processor, T.t_Processor_board, (by simp), ?_⟩
    have t2 := t1.put0 (o' := .ins (aC "Processor" K) dx [("_setup", .ref A.su), ("_board", .ref A.bo)])
    refine ⟨_, rfl, _, _, _, _, rfl, t2.c0, T.cl_Processor, T.t_Processor_bar, (by simp), ?_⟩
    have t3 := t2.put0 (o' := .ins (aC "Processor" K) dx [("_setup", .ref A.su), ("_board", .ref A.bo), ("_bar", .int 0)])
    refine ⟨Nat.zero_le _, fun st hst => ?_⟩
    have t4 := (t3.own (o := .lst []) hst).swap
    refine ⟨_, rfl, _, _, _, _, rfl, t4.c0, T.cl_Processor, T.t_Processor_stack, (by simp), ?_⟩
    have t5 := t4.put0 (o' := .ins (aC "Processor" K) dx [("_setup", .ref A.su), ("_board", .ref A.bo), ("_bar", .int 0), ("_stack", .ref st)])
    refine ⟨_, rfl, A.su, dx2, _, rfl, t5.ext _ _ h3, A.su, S, K0, rfl, ob.su, t5.ext, fun wa hwa jo dj hjo hdj hne => ?_⟩
    have t6 := t5.obj (o := .own jo) (o' := .ins (aC "WorkQueue" K) dj []) hjo hdj hne
    refine ⟨jo, dj, wa, S.ws, K0, _, rfl, t6, hwa, ob.ok.okw, fun K1 H1 rk ln ro g1 hJ t7 => ⟨rfl, ?_⟩⟩
    have t7 := t7.perm (M := (x, .ins (aC "Processor" K) dx [("_setup", .ref A.su), ("_board", .ref A.bo), ("_bar", .int 0), ("_stack", .ref st)]) :: (st, .lst []) :: (jo, jqI K dj rk ln ro) :: (ro, .lst []) :: (M ++ L)) (List.perm_append_comm_assoc [_, _] [_, _] _)
    refine ⟨_, rfl, _, _, _, _, rfl, t7.c0, T.cl_Processor, T.t_Processor_jobs, (by simp), ?_⟩
    have t8 := t7.put0 (o' := .ins (aC "Processor" K) dx [("_setup", .ref A.su), ("_board", .ref A.bo), ("_bar", .int 0), ("_stack", .ref st), ("_jobs", .ref jo)])
    refine ⟨small8 (by simp), fun co hco => ?_⟩
    have t9 := (t8.own (o := .lst [.int 0, .int 0, .int 0, .int 0]) hco).swap
    refine ⟨_, rfl, _, _, _, _, rfl, t9.c0, T.cl_Processor, T.t_Processor_counts, (by simp), ?_⟩
    have tA := t9.put0 (o' := .ins (aC "Processor" K) dx [("_setup", .ref A.su), ("_board", .ref A.bo), ("_bar", .int 0), ("_stack", .ref st), ("_jobs", .ref jo), ("_counts", .ref co)])
    have tB := tA.perm (M := (x, .ins (aC "Processor" K) dx [("_setup", .ref A.su), ("_board", .ref A.bo), ("_bar", .int 0), ("_stack", .ref st), ("_jobs", .ref jo), ("_counts", .ref co)]) :: (st, .lst []) :: (jo, jqI K dj rk ln ro) :: (ro, .lst []) :: (co, .lst [.int 0, .int 0, .int 0, .int 0]) :: (M ++ L)) (.cons _ (List.perm_middle (l₁ := [(st, HO.lst []), (jo, jqI K dj rk ln ro), (ro, .lst [])])))
    exact q K1 _ ⟨x, dx, st, jo, dj, rk, ln, ro, co⟩ g1 rfl ⟨hJ, [], [], .nil, .nil, bkB K1 _ (layP K A ⟨x, dx, st, jo, dj, rk, ln, ro, co⟩ pr0 [] [] M) g1 tB⟩
abbrev N_Processor_hand_over_works : List Str := ["self", "other", "moving", "work", "ticks"]
theorem sc_Processor_hand_over_works : FnScope N_Processor_hand_over_works ["self", "other"] (C8.fnScope s_Processor_hand_over_works) := C8.fnScope_by (by decide +kernel)
theorem ok_Processor_hand_over_works {fd : FuncData} (T : Txt K mg) (F : FunD K "hand_over_works" "Processor.hand_over_works" (C8.fnArgs s_Processor_hand_over_works) (C8.fnBody s_Processor_hand_over_works) (C8.fnScope s_Processor_hand_over_works) [] [] (He.ma K (aC "Processor" K) "hand_over_works") fd) (c_jrows : C8.Met P w K mg base 1 (aC "WorkQueue" K) "rows" (sp_WorkQueue_rows K) []) (c_drop_rows : C8.Met P w K mg base 1 (aC "WorkQueue" K) "drop_rows" (sp_WorkQueue_drop_rows K) []) (c_jput : C8.Met P w K mg base 1 (aC "WorkQueue" K) "put" (sp_WorkQueue_put K) []) :
    C8.Met P w K mg base 3 (aC "Processor" K) "hand_over_works" (sp_Processor_hand_over_works K) [] := by
  refine C8.met0 T.cl_Processor T.m_Processor_hand_over_works (fun_c8 F) (F.bindsN fun _ _ _ _ _ _ us hl => match us, hl with | [_, _], _ => rfl) sc_Processor_hand_over_works (fun vs H Q E h => ?_) (fun cdv A outer s H vs Q E hr h => ?_)
  · obtain ⟨_, _, _, _, _, _, _, _, _, _, _, rfl, _⟩ := h
    rfl
  · have nd := sc_Processor_hand_over_works.nd
    have hu := hu_of hr
    obtain ⟨A, P, P2, S, K0, b, p, p2, sv2, rv2, M, rfl, ow, fj2, c2, r2, ri, ri2, hl, q⟩ := h
    refine ⟨_, (pss_cons (ps_set (i := 2) nd rfl (Or.inl rfl) (C8.pe_mt0 c_jrows hr (by decide) (pe_fld (pv 0) rfl)))
      (pss_cons (ps_expr (C8.pe_mt0 c_drop_rows hr (by decide) (pe_fld (pv 0) rfl)))
      (pss_one (ps_for PassesOwn.never rfl (pi_list (pv 2)) (pg_tup rfl (pgs_cons (pg_name (i := 3) nd rfl (Or.inl rfl)) (pgs_cons (pg_name (i := 4) nd rfl (Or.inl rfl)) pgs_nil))) (pss_one (ps_expr (C8.pe_mt c_jput hr (by decide) (pe_fld (pv 1) rfl) (pa_cons (pv 3) (pa_cons (pv 4) pa_nil))))))))), ?_⟩
    obtain ⟨sv, rv, h1, h2, ob⟩ := ow.ex
    obtain ⟨L, sp0, bk0⟩ := ob.lens
    have sp : Sep K0 H (layP K A P p sv rv (layP K A P2 p2 sv2 rv2 M ++ L)) := sp0
    have hpr := sp.c0
    have hl2 := h2.length
    refine ⟨_, rfl, _, _, _, _, _, rfl, hpr, T.cl_Processor, T.t_Processor_jobs, rfl, P.jo, P.dj, _, rfl, sp.c2, rfl, P.jo, P.dj, P.rk, P.ln, P.ro, rv, rfl, sp.c2, sp.c3, by omega, fun a H1 g hp hp1 => ?_⟩
    have sp1 := (sp.own' g hp hp1).dn5
    have hpr1 := sp1.c0
    refine ⟨_, rfl, _, _, _, _, _, rfl, hpr1, T.cl_Processor, T.t_Processor_jobs, rfl, P.jo, P.dj, _, rfl, sp1.c2, rfl, P.jo, P.dj, P.rk, P.ln, P.ro, rv, K0, _, rfl, sp1.upQ, fun H2 ro' sp2 => ?_⟩
    have sp3 := sp2.dnQ
    have hX : (a, HO.lst rv) ∈ ([(P.pr, prI K A P p.bar), (P.st, .lst sv), (P.jo, jqI K P.dj P.rk P.ln ro'), (ro', .lst []), (P.co, .lst [.int p.c0, .int p.c1, .int p.c2, .int p.c3]), (a, .lst rv)] : List (Addr × HO)) := by simp
    have sp4 : Sep K0 H2 (layP K A P2 p2 sv2 rv2 ([(P.pr, prI K A P p.bar), (P.st, .lst sv), (P.jo, jqI K P.dj P.rk P.ln ro'), (ro', .lst []), (P.co, .lst [.int p.c0, .int p.c1, .int p.c2, .int p.c3]), (a, .lst rv)] ++ (M ++ L))) := sp3.perm (List.perm_append_comm_assoc [(P2.pr, prI K A P2 p2.bar), (P2.st, .lst sv2), (P2.jo, jqI K P2.dj P2.rk P2.ln P2.ro), (P2.ro, .lst rv2), (P2.co, .lst [.int p2.c0, .int p2.c1, .int p2.c2, .int p2.c3])] [(P.pr, prI K A P p.bar), (P.st, .lst sv), (P.jo, jqI K P.dj P.rk P.ln ro'), (ro', .lst []), (P.co, .lst [.int p.c0, .int p.c1, .int p.c2, .int p.c3]), (a, .lst rv)] (M ++ L))
    clear sp1 sp2 sp3 sp sp0
    generalize hXX : [(P.pr, prI K A P p.bar), (P.st, HO.lst sv), (P.jo, jqI K P.dj P.rk P.ln ro'), (ro', .lst []), (P.co, .lst [.int p.c0, .int p.c1, .int p.c2, .int p.c3]), (a, .lst rv)] = X at hX sp4
    refine ⟨_, rfl, _, rfl, ⟨_, l_of (sp4.at_ (List.mem_cons_of_mem _ (List.mem_cons_of_mem _ (List.mem_cons_of_mem _ (List.mem_cons_of_mem _ (List.mem_cons_of_mem _ (List.mem_append_left _ hX)))))))⟩, ?_⟩
    refine for_it (walk_list (xs := rv)) (fun j σ H' => ∃ y3 y4 K' rv2', σ = [some (.ref P.pr), some (.ref P2.pr), some (.ref a), y3, y4] ∧ Same K0 K' ∧ Paired (RowAt K K') rv2' (handR S.ws p2.rows (p.rows.take j)) ∧ Sep K' H' (layP K A P2 p2 sv2 rv2' (X ++ (M ++ L)))) ⟨_, _, K0, rv2, rfl, Same.refl _, r2, sp4⟩ ?_ ?_ ?_
    · rintro j σ H' _ ⟨y3, y4, K', rv2', _, g, pr, s⟩
      exact l_of (s.at_ (List.mem_cons_of_mem _ (List.mem_cons_of_mem _ (List.mem_cons_of_mem _ (List.mem_cons_of_mem _ (List.mem_cons_of_mem _ (List.mem_append_left _ hX)))))))
    · rintro j v σ H3 H4 hj ⟨y3, y4, K', rv2', rfl, g', pr, s⟩ ⟨rfl, e2⟩
      obtain ⟨r, hr3, t, rfl, ht⟩ := pget h2 e2
      obtain ⟨w, hw, ew⟩ := ri r (List.mem_of_getElem? hr3)
      have hp2 := s.c0
      have rin : RowsIn S.ws (handR S.ws p2.rows (p.rows.take j)) := handR_in ri2 fun x m => ri x (List.mem_of_mem_take m)
      have rle := handR_len (ws := S.ws) (rows := p2.rows) (m := p.rows.take j)
      rw [List.length_take] at rle
      refine ⟨_, _, rfl, Same.tup (Same.tr g' s.ext) ht, rfl, _, _, rfl, _, _, rfl, rfl, ?_⟩
      refine ⟨_, rfl, _, _, _, _, _, rfl, hp2, T.cl_Processor, T.t_Processor_jobs, rfl, P2.jo, P2.dj, _, rfl, s.c2, rfl, _, rfl, _, rfl, P2.jo, P2.dj, P2.rk, P2.ln, P2.ro, S.ws, rv2', handR S.ws p2.rows (p.rows.take j), w, r.2, K', _, by rw [ew]; rfl, JobsK.up g' fj2, rin, hw, pr, by omega, s.upQ, fun K1 H5 rv3 g5 hp5 sp5 => ?_⟩
      refine ⟨_, _, K1, rv3, rfl, Same.tr g' g5, ?_, sp5.dnQ⟩
      rw [handR_snoc hr3, ← ew]
      exact hp5
    rintro σ H3 ⟨y3, y4, K', rv2', rfl, g', pr, s⟩
    rw [List.take_of_length_le (by omega)] at pr
    subst hXX
    have s1 := s.perm (List.perm_append_comm_assoc [(P.pr, prI K A P p.bar), (P.st, .lst sv), (P.jo, jqI K P.dj P.rk P.ln ro'), (ro', .lst []), (P.co, .lst [.int p.c0, .int p.c1, .int p.c2, .int p.c3]), (a, .lst rv)] [(P2.pr, prI K A P2 p2.bar), (P2.st, .lst sv2), (P2.jo, jqI K P2.dj P2.rk P2.ln P2.ro), (P2.ro, .lst rv2'), (P2.co, .lst [.int p2.c0, .int p2.c1, .int p2.c2, .int p2.c3])] (M ++ L))
    have s2 := (s1.up5).tail
    exact q K' _ ro' rv2' g' pr ⟨JobsK.up g' ow.fj, sv, [], h1.mono fun _ _ z => CallAt.up g' z, .nil, bk0 K' _ (layP K A { P with ro := ro' } { p with rows := [] } sv [] (layP K A P2 { p2 with rows := handR S.ws p2.rows p.rows } sv2 rv2' M)) g' s2⟩
end
end Cb

namespace Cb
open PySem PySem.Spec PyProof.Rows L2

def gd (o : List Str) (f : Str → V) : List (Key × V) := o.map fun n => (.inr n, f n)
def gset {α : Type} (f : Str → α) (n : Str) (v : α) : Str → α := fun m => if m = n then v else f m
theorem gset_eq {α : Type} {f : Str → α} {n : Str} {v : α} : gset f n v n = v := if_pos rfl
theorem gd_at {f : Str → V} {n : Str} : ∀ {o : List Str}, n ∈ o → valV (gd o f) (.inr n) = some (f n)
  | m :: o, h => by
    by_cases e : m = n
    · subst e
      simp [gd, valV]
    · have z := gd_at (f := f) (o := o) ((List.mem_cons.mp h).resolve_left fun q => e q.symm)
      unfold gd valV at z ⊢
      rw [List.map_cons, List.find?_cons_of_neg (by simp [e])]
      exact z
theorem gd_no {f : Str → V} {n : Str} {o : List Str} (h : n ∉ o) : valV (gd o f) (.inr n) = none := by
  unfold valV gd
  rw [List.find?_eq_none.mpr fun x hx => ?_]
  · rfl
  · obtain ⟨m, hm, rfl⟩ := List.mem_map.mp hx
    have : m ≠ n := fun q => h (q ▸ hm)
    simp [this]
theorem putK_gd {f : Str → V} {n : Str} {v : V} {o : List Str} (h : n ∈ o) : putK (gd o f) (.inr n) v = gd o (gset f n v) := by
  unfold putK
  rw [if_pos]
  · unfold gd gset
    rw [List.map_map]
    refine List.map_congr_left fun m hm => ?_
    by_cases e : m = n
    · subst e; simp
    · simp [e]
  · simp [gd]
    exact h
theorem gd_snoc {f : Str → V} {o : List Str} (nd : o.Nodup) {i : Nat} {n : Str} (h : o[i]? = some n) : putK (gd (o.take i) f) (.inr n) (f n) = gd (o.take (i + 1)) f := by
  unfold putK
  rw [if_neg]
  · unfold gd
    rw [take_snoc h, List.map_append]
    rfl
  · intro hx
    refine nodup_take nd h ?_
    have e : gd (o.take i) f = (o.take i).map fun n => (.inr n, f n) := rfl
    rw [e] at hx
    generalize o.take i = l at hx
    simp at hx
    exact hx
theorem natV_flat {l : List Nat} : (l.map fun k => V.int (k : Nat)).all flatV = true := by simp [List.all_map, flatV]
structure RtD where
  rule : Str
  stops : List Nat
structure AdR where
  ro : Addr
  dr : Addr
  ru : Addr
  sp : Addr
  tu : Addr
def natV (l : List Nat) : List V := l.map fun k => V.int (k : Nat)
theorem natV_in {p : Nat} : ∀ {l : List Nat}, inV (.int (p : Nat)) (natV l) = decide (p ∈ l)
  | [] => rfl
  | k :: l => by
    have z := natV_in (p := p) (l := l)
    unfold inV natV at z ⊢
    rw [List.map_cons, List.any_cons, z]
    by_cases e : k = p
    · subst e; simp [eqV]
    · have e2 : ¬ p = k := fun q => e q.symm
      simp [eqV, e2]
      intro q
      omega
theorem natV_len {l : List Nat} : (natV l).length = l.length := List.length_map _
theorem natV_at {l : List Nat} {i : Nat} {k : Nat} (h : l[i]? = some k) : (natV l)[i]? = some (.int (k : Nat)) := by
  unfold natV
  rw [List.getElem?_map, h]
  rfl
def roI (K : PySem.W.Frag) (R : AdR) : HO := .ins (aC "Router" K) R.dr [("_rules", .ref R.ru), ("_stops", .ref R.sp), ("_turns", .ref R.tu)]
structure RouterK (K : PySem.W.Frag) (R : AdR) (S : SetD) (rt : Str → RtD) (K0 : Hp) : Prop where
  ob : K0 R.ro = some (roI K R)
  rl : K0 R.ru = some (.dK (gd S.order fun n => .str (rt n).rule))
  st : ∃ f : Str → Addr, K0 R.sp = some (.dK (gd S.order fun n => .ref (f n))) ∧ ∀ n ∈ S.order, K0 (f n) = some (.tup (natV (rt n).stops))
theorem RouterK.up {K : PySem.W.Frag} {R : AdR} {S : SetD} {rt : Str → RtD} {H H' : Hp} (e : Same H H') (h : RouterK K R S rt H) : RouterK K R S rt H' := ⟨e _ _ h.ob, e _ _ h.rl, h.st.elim fun f z => ⟨f, e _ _ z.1, fun n m => e _ _ (z.2 n m)⟩⟩
def RULES : List Str := ["first", "least", "turn"]
structure RtOk (c : Nat) (r : RtD) : Prop where
  ru : r.rule ∈ RULES
  ne : r.stops ≠ []
  lt : ∀ k ∈ r.stops, k < c
  nd : r.stops.Nodup
  le : r.stops.length ≤ 6
def tnV (tn : Str → Nat) : Str → Int := fun n => (tn n : Nat)
theorem tnV_set {tn : Str → Nat} {n : Str} {t : Nat} : nset (tnV tn) n (t : Nat) = tnV (gset tn n t) := by
  funext m
  unfold nset tnV gset
  split <;> rfl
def isOn (sts : List Str) (k : Nat) : Bool := decide (sts.getD k "off" = "on")
def turnR (stops : List Nat) (sts : List Str) (turn : Nat) : Option (Nat × Nat) :=
  ((List.range stops.length).find? fun i => isOn sts (stops.getD ((turn + i) % stops.length) 0)).map fun i => (stops.getD ((turn + i) % stops.length) 0, (turn + i + 1) % stops.length)
def leastL (f : Nat → Nat) (l : List Nat) : Nat := (l.find? fun k => l.all fun j => decide (f k ≤ f j)).getD 0
def chooseR (S : SetD) (b : BdD) (sts : List Str) (r : RtD) (turn : Nat) : Option (Nat × Nat) :=
  if r.rule = "turn" then turnR r.stops sts turn
  else match r.stops.filter (isOn sts) with
    | [] => none
    | k :: ks => some (if r.rule = "first" then k else leastL (fun q => loadB S b (q : Nat)) (k :: ks), turn)
theorem gset_self {α : Type} {f : Str → α} {n : Str} : gset f n (f n) = f := by
  funext m
  unfold gset
  split
  · next e => rw [e]
  · rfl
def stV (l : List Str) : List V := l.map V.str
theorem stV_at {l : List Str} {i : Nat} {x : Str} (h : l[i]? = some x) : (stV l)[i]? = some (.str x) := by
  unfold stV
  rw [List.getElem?_map, h]
  rfl
theorem find_range {p : Nat → Bool} {j n : Nat} (h : j < n) (hj : p j = true) (hn : ∀ i < j, ¬ p i = true) : (List.range n).find? p = some j := by
  rw [List.find?_range_eq_some]
  refine ⟨hj, List.mem_range.mpr h, fun i hi => ?_⟩
  simpa using hn i hi
theorem str_eq2 {x y : Str} : V.bl (decide (V.str x = V.str y)) = V.bl (decide (x = y)) := by
  by_cases e : x = y
  · subst e; simp
  · rw [decide_eq_false e, decide_eq_false fun q => e (V.str.inj q)]
theorem natV_get {l : List Nat} {i : Nat} {v : V} (h : (natV l)[i]? = some v) : ∃ k, l[i]? = some k ∧ V.int (k : Nat) = v := by
  unfold natV at h
  rw [List.getElem?_map] at h
  exact Option.map_eq_some_iff.mp h
theorem natV_snoc {a : List Nat} {k : Nat} : natV a ++ [V.int (k : Nat)] = natV (a ++ [k]) := by simp [natV]
theorem first_at {p : Nat → Prop} : ∀ {l : List Nat}, (∃ x ∈ l, p x) → ∃ (j : Nat) (x : Nat), l[j]? = some x ∧ p x ∧ ∀ i < j, ∀ z, l[i]? = some z → ¬ p z
  | [], h => by obtain ⟨x, m, _⟩ := h; cases m
  | y :: l, h => by
    by_cases e : p y
    · exact ⟨0, y, rfl, e, fun i hi => absurd hi (Nat.not_lt_zero _)⟩
    · have h2 : ∃ x ∈ l, p x := by
        obtain ⟨x, m, px⟩ := h
        rcases List.mem_cons.mp m with rfl | m
        · exact absurd px e
        · exact ⟨x, m, px⟩
      obtain ⟨j, x, a, b, c⟩ := first_at h2
      refine ⟨j + 1, x, a, b, fun i hi z hz => ?_⟩
      cases i with
      | zero => obtain rfl := Option.some.inj hz; exact e
      | succ i => exact c i (by omega) z hz
theorem least_at {f : Nat → Nat} {l : List Nat} {j x : Nat} (h : l[j]? = some x) (hm : ∀ y ∈ l, f x ≤ f y) (hn : ∀ i < j, ∀ z, l[i]? = some z → ¬ f z = f x) : leastL f l = x := by
  unfold leastL
  have hj : j < l.length := by
    rcases Nat.lt_or_ge j l.length with z | z
    · exact z
    · rw [List.getElem?_eq_none z] at h; cases h
  have e : l.find? (fun k => l.all fun j => decide (f k ≤ f j)) = some x := by
    rw [List.find?_eq_some_iff_getElem]
    refine ⟨List.all_eq_true.mpr fun y hy => decide_eq_true (hm y hy), j, hj, ?_, fun i hi => ?_⟩
    · rw [List.getElem?_eq_getElem hj] at h
      exact Option.some.inj h
    · have hi2 : i < l.length := by omega
      have g := hn i hi _ (List.getElem?_eq_getElem hi2)
      have mx := List.mem_of_getElem? h
      have g2 := hm _ (List.getElem_mem hi2)
      cases hb : l.all fun j => decide (f l[i] ≤ f j) with
      | false => rfl
      | true =>
        have z := of_decide_eq_true (List.all_eq_true.mp hb x mx)
        exact absurd (Nat.le_antisymm z g2) g
  rw [e]
  rfl
theorem Sep.ne10 {K0 H : Hp} {L : List (Addr × HO)} {a b : Addr} {x y : HO} (s : Sep K0 H ((a, x) :: (b, y) :: L)) : b ≠ a := fun e => (List.nodup_cons.mp s.nd).1 (by rw [← e]; exact List.mem_cons_self)
section
variable {K0 H : Hp} {L : List (Addr × HO)} {a1 a2 a3 : Addr × HO}
theorem Sep.rot3 (s : Sep K0 H (a1 :: a2 :: a3 :: L)) : Sep K0 H (a3 :: a1 :: a2 :: L) := s.perm (List.perm_append_comm_assoc [a3] [a1, a2] L)
theorem Sep.unrot3 (s : Sep K0 H (a3 :: a1 :: a2 :: L)) : Sep K0 H (a1 :: a2 :: a3 :: L) := s.perm (List.perm_append_comm_assoc [a1, a2] [a3] L)
end
def sp_Router_allows (K : PySem.W.Frag) : Sp := fun vs H Q _ => ∃ (R : AdR) (S : SetD) (rt : Str → RtD) (n : Str) (p : Nat), vs = [.ref R.ro, .str n, .int (p : Nat)] ∧ RouterK K R S rt H ∧ n ∈ S.order ∧ Q (.bl (decide (p ∈ (rt n).stops))) H
def sp_Router_turned (K : PySem.W.Frag) : Sp := fun vs H Q _ => ∃ (R : AdR) (S : SetD) (rt : Str → RtD) (tn : Str → Nat) (sts : List Str) (sa : Addr) (n : Str) (K0 : Hp) (M : List (Addr × HO)), vs = [.ref R.ro, .str n, .ref sa] ∧ RouterK K R S rt K0 ∧ SetOk S ∧ n ∈ S.order ∧ RtOk sts.length (rt n) ∧ tn n < (rt n).stops.length ∧ Sep K0 H ((R.tu, .dK (md S.order (tnV tn))) :: M) ∧ H sa = some (.lst (stV sts)) ∧ sa ≠ R.tu ∧
  (∀ p t H', turnR (rt n).stops sts (tn n) = some (p, t) → Sep K0 H' ((R.tu, .dK (md S.order (tnV (gset tn n t)))) :: M) → Q (.int (p : Nat)) H') ∧ (turnR (rt n).stops sts (tn n) = none → Q .non H)
def sp_Router_choose (K : PySem.W.Frag) : Sp := fun vs H Q _ => ∃ (A : AdB) (R : AdR) (S : SetD) (rt : Str → RtD) (tn : Str → Nat) (sts : List Str) (sa : Addr) (n : Str) (K0 : Hp) (b : BdD) (M : List (Addr × HO)), vs = [.ref R.ro, .str n, .ref sa, .ref A.bo] ∧ RouterK K R S rt K0 ∧ n ∈ S.order ∧ RtOk sts.length (rt n) ∧ tn n < (rt n).stops.length ∧ OwnB K A S K0 H b ((R.tu, .dK (md S.order (tnV tn))) :: (sa, .lst (stV sts)) :: M) ∧
  (∀ p t H', chooseR S b sts (rt n) (tn n) = some (p, t) → OwnB K A S K0 H' b ((R.tu, .dK (md S.order (tnV (gset tn n t)))) :: (sa, .lst (stV sts)) :: M) → Q (.int (p : Nat)) H') ∧ (∀ H', chooseR S b sts (rt n) (tn n) = none → OwnB K A S K0 H' b ((R.tu, .dK (md S.order (tnV tn))) :: (sa, .lst (stV sts)) :: M) → Q .non H')
structure RouteD where
  name : Str
  rule : Str
  stops : List Nat
def RouteAt (K : PySem.W.Frag) (H : Hp) (v : V) (r : RouteD) : Prop := ∃ t p, v = .ref t ∧ SqT K H t [.str r.name, .str r.rule, .ref p] ∧ H p = some (.tup (natV r.stops))
theorem RouteAt.up {K : PySem.W.Frag} {H H' : Hp} {v : V} {r : RouteD} (e : Same H H') (h : RouteAt K H v r) : RouteAt K H' v r := by
  obtain ⟨t, p, a, b, c⟩ := h
  exact ⟨t, p, a, Same.tup e b, e _ _ c⟩
def RoutesAt (K : PySem.W.Frag) (H : Hp) (a : Addr) (rs : List RouteD) : Prop := ∃ xs, SqT K H a xs ∧ Paired (RouteAt K H) xs rs
theorem RoutesAt.up {K : PySem.W.Frag} {H H' : Hp} {a : Addr} {rs : List RouteD} (e : Same H H') (h : RoutesAt K H a rs) : RoutesAt K H' a rs := h.elim fun xs z => ⟨xs, Same.tup e z.1, z.2.mono fun _ _ q => RouteAt.up e q⟩
def rtOf (c : Nat) (rs : List RouteD) : Str → RtD := rs.foldl (fun f r => gset f r.name ⟨r.rule, r.stops⟩) fun _ => ⟨"first", List.range c⟩
theorem rtOf_snoc {c : Nat} {rs : List RouteD} {i : Nat} {r : RouteD} (h : rs[i]? = some r) : rtOf c (rs.take (i + 1)) = gset (rtOf c (rs.take i)) r.name ⟨r.rule, r.stops⟩ := by
  unfold rtOf
  rw [take_snoc h, List.foldl_append]
  rfl
theorem gset_rule {f : Str → RtD} {n : Str} (x : Str) (l : List Nat) : gset (fun n => V.str (f n).rule) n (.str x) = fun m => V.str (gset f n ⟨x, l⟩ m).rule := by
  funext m
  unfold gset
  split <;> rfl
theorem gset_ref {f : Str → Addr} {n : Str} {a : Addr} : gset (fun n => V.ref (f n)) n (.ref a) = fun m => V.ref (gset f n a m) := by
  funext m
  unfold gset
  split <;> rfl
theorem gd_len {S : SetD} (ok : SetOk S) (f : Str → V) : (gd S.order f).length < sizeLine := sml (m := 12) (by simpa [gd] using ok.len) (by decide)
theorem rgV_nat {c : Nat} : rgV 0 (c : Nat) = natV (List.range c) := by
  unfold rgV natV
  have : ((c : Int) - 0).toNat = c := by omega
  rw [this]
  refine List.map_congr_left fun i _ => ?_
  rw [Int.zero_add]
def sp_Router_init (K : PySem.W.Frag) : Sp := fun vs H Q _ => ∃ (x dx su : Addr) (S : SetD) (c : Nat) (ra : Addr) (rs : List RouteD) (K0 : Hp) (M : List (Addr × HO)), vs = [.ref x, .ref su, .int (c : Nat), .ref ra] ∧ Sep K0 H ((x, .ins (aC "Router" K) dx []) :: M) ∧ SetupAt K K0 su S ∧ SetOk S ∧ c ≤ 6 ∧ RoutesAt K K0 ra rs ∧ (∀ r ∈ rs, r.name ∈ S.order) ∧
  ∀ K1 H' R, Same K0 K1 → R.ro = x → RouterK K R S (rtOf c rs) K1 → Sep K1 H' ((R.tu, .dK (md S.order (tnV fun _ => 0))) :: M) → Q .non H'

section
variable {P : Program} {w : World} {K : PySem.W.Frag} {mg : Str → Option Value} {base : Heap}

abbrev N_Router_turned : List Str := ["self", "line", "states", "stops", "turn", "step", "at"]
theorem sc_Router_turned : FnScope N_Router_turned ["self", "line", "states"] (C8.fnScope s_Router_turned) := C8.fnScope_by (by decide +kernel)
theorem ok_Router_turned {fd : FuncData} (T : Txt K mg) (F : FunD K "_turned" "Router._turned" (C8.fnArgs s_Router_turned) (C8.fnBody s_Router_turned) (C8.fnScope s_Router_turned) [] [] (He.ma K (aC "Router" K) "_turned") fd) :
    C8.Met P w K mg base 1 (aC "Router" K) "_turned" (sp_Router_turned K) [] := by
  refine C8.met0 T.cl_Router T.m_Router_turned (fun_c8 F) (F.bindsN fun _ _ _ _ _ _ us hl => match us, hl with | [_, _, _], _ => rfl) sc_Router_turned (fun vs H Q E h => ?_) (fun cdv A outer s H vs Q E hr h => ?_)
  · obtain ⟨_, _, _, _, _, _, _, _, _, rfl, _⟩ := h
    rfl
  · have nd := sc_Router_turned.nd
    have hu := hu_of hr
    obtain ⟨R, S, rt, tn, sts, sa, n, K0, M, rfl, rk, ok, hn, ro, tl, sp, hs, ne, qs, qn⟩ := h
    refine ⟨_, (pss_cons (ps_set (i := 3) nd rfl (Or.inl rfl) (pe_dget hu (pe_fld (pv 0) rfl) (pv 1) (fun _ _ => rfl)))
      (pss_cons (ps_set (i := 4) nd rfl (Or.inl rfl) (pe_dget hu (pe_fld (pv 0) rfl) (pv 1) (fun _ _ => rfl)))
      (pss_cons (ps_for PassesOwn.never rfl (pi_range2 (by rfl) T.n_range (pa_cons (pv 4) (pa_cons (pe_op op_add (pv 4) (pe_callB call_len_seq (by rfl) T.n_len (by decide +kernel) (pa_cons (pv 3) pa_nil))) pa_nil))) (pg_name (i := 5) nd rfl (Or.inl rfl)) (pss_cons (ps_set (i := 6) nd rfl (Or.inl rfl) (pe_ix ix_tup (pv 3) (pe_op op_mod (pv 5) (pe_callB call_len_seq (by rfl) T.n_len (by decide +kernel) (pa_cons (pv 3) pa_nil))) (fun _ _ => rfl)))
      (pss_one (ps_if (pt_cmpR op_eq (pe_ix ix_list (pv 2) (pv 6) (fun _ _ => rfl)) pe_str (nomark _)) (pss_cons (ps_dput hu (pe_fld (pv 0) rfl) (pv 1) (pe_op op_mod (pe_op op_add (pv 5) pe_int) (pe_callB call_len_seq (by rfl) T.n_len (by decide +kernel) (pa_cons (pv 3) pa_nil))) rfl)
      (pss_one (ps_ret (pv 6)))) pss_nil))))
      (pss_one (ps_ret pe_non))))), ?_⟩
    have h1 := sp.ext _ _ rk.ob
    obtain ⟨f, h2, h3⟩ := rk.st
    have h4 := sp.ext _ _ (h3 n hn)
    refine ⟨_, rfl, _, _, _, _, _, rfl, h1, T.cl_Router, T.t_Router_stops, rfl, _, rfl, R.sp, .ref (f n), rfl, ?_, ?_⟩
    · exact gd_at (f := fun n => V.ref (f n)) hn ▸ DGet.k (k := .inr n) (sp.ext _ _ h2)
    refine ⟨_, rfl, _, _, _, _, _, rfl, h1, T.cl_Router, T.t_Router_turns, rfl, _, rfl, R.tu, .int (tnV tn n), rfl, ?_, ?_⟩
    · exact md_at (f := tnV tn) hn ▸ DGet.k (k := .inr n) sp.c0
    have hlt := ro.le
    refine ⟨_, rfl, _, rfl, _, rfl, _, _, rfl, .inr (t_of h4), _, _, rfl, rfl, _, _, rfl, ?_, ?_⟩
    · simp only [tnV, natV_len]
      omega
    have hL : 0 < (rt n).stops.length := List.length_pos_iff.mpr ro.ne
    refine for_it (walk_range (lo := tnV tn n) (n := (tnV tn n + (natV (rt n).stops).length - tnV tn n).toNat)) (fun j σ H' => ∃ y5 y6, σ = [some (.ref R.ro), some (.str n), some (.ref sa), some (.ref (f n)), some (.int (tnV tn n)), y5, y6] ∧ H' = H ∧ ∀ i < j, isOn sts ((rt n).stops.getD ((tn n + i) % (rt n).stops.length) 0) = false) ⟨_, _, rfl, rfl, fun _ q => absurd q (Nat.not_lt_zero _)⟩ (fun _ _ _ _ _ => trivial) ?_ ?_
    · rintro j v σ H1 H2 hj ⟨y5, y6, rfl, rfl, hno⟩ ⟨rfl, rfl⟩
      rw [natV_len] at hj
      have hj : j < (rt n).stops.length := by omega
      have em : (tnV tn n + (j : Nat)) % ((natV (rt n).stops).length : Int) = (((tn n + j) % (rt n).stops.length : Nat) : Int) := by
        rw [natV_len, Int.natCast_emod, Int.natCast_add]
        rfl
      obtain ⟨k, hk⟩ : ∃ k, (rt n).stops[(tn n + j) % (rt n).stops.length]? = some k := ⟨_, List.getElem?_eq_getElem (Nat.mod_lt _ hL)⟩
      have hkd : (rt n).stops.getD ((tn n + j) % (rt n).stops.length) 0 = k := by rw [List.getD_eq_getElem?_getD, hk]; rfl
      have hks := ro.lt k (List.mem_of_getElem? hk)
      obtain ⟨x, hx⟩ : ∃ x, sts[k]? = some x := ⟨_, List.getElem?_eq_getElem hks⟩
      have hxo : isOn sts k = decide (x = "on") := by unfold isOn; rw [List.getD_eq_getElem?_getD, hx]; rfl
      refine ⟨_, rfl, _, rfl, _, rfl, _, _, rfl, .inr (t_of h4), _, _, rfl, rfl, (by rw [natV_len]; omega), _, _, _, _, rfl, rfl, t_of h4, (by rw [em]; exact atIn (natV_at hk)), ?_⟩
      refine ⟨_, rfl, _, rfl, _, _, _, _, rfl, rfl, l_of hs, atIn (stV_at hx), rfl, decide (x = "on"), str_eq2, ?_⟩
      by_cases ex : x = "on"
      · rw [decide_eq_true ex] at hxo ⊢
        refine iteT ?_
        have en : (tnV tn n + (j : Nat) + 1) % ((natV (rt n).stops).length : Int) = (((tn n + j + 1) % (rt n).stops.length : Nat) : Int) := by
          rw [natV_len, Int.natCast_emod, Int.natCast_add, Int.natCast_add]
          rfl
        have et : turnR (rt n).stops sts (tn n) = some (k, (tn n + j + 1) % (rt n).stops.length) := by
          unfold turnR
          rw [find_range hj (by rw [hkd]; exact hxo) fun i hi => by rw [hno i hi]; simp]
          rw [Option.map_some, hkd]
        have dp := DPut.k (k := .inr n) (v := .int (((tn n + j + 1) % (rt n).stops.length : Nat) : Int)) sp.c0 (md_len ok _)
        rw [putK_md hn, tnV_set] at dp
        refine ⟨_, rfl, _, _, rfl, rfl, _, rfl, _, _, rfl, .inr (t_of h4), _, _, rfl, rfl, (by rw [natV_len]; omega), ?_⟩
        rw [← en] at dp
        refine ⟨_, rfl, _, _, _, _, _, rfl, h1, T.cl_Router, T.t_Router_turns, rfl, _, rfl, R.tu, _, rfl, dp, ?_⟩
        exact ⟨_, rfl, qs k _ _ et sp.put0⟩
      · rw [decide_eq_false ex] at hxo ⊢
        refine iteF ?_
        refine ⟨_, _, rfl, rfl, fun i hi => ?_⟩
        rcases Nat.lt_succ_iff_lt_or_eq.mp hi with hi | rfl
        · exact hno i hi
        · rw [hkd]
          exact hxo
    rintro σ H1 ⟨y5, y6, rfl, rfl, hno⟩
    refine qn ?_
    unfold turnR
    rw [List.find?_eq_none.mpr fun i hi => ?_]
    · rfl
    · rw [natV_len] at hno
      rw [hno i (by have := List.mem_range.mp hi; omega)]
      simp
abbrev N_Router_choose : List Str := ["self", "line", "states", "board", "rule", "running", "at", "loads"]
theorem sc_Router_choose : FnScope N_Router_choose ["self", "line", "states", "board"] (C8.fnScope s_Router_choose) := C8.fnScope_by (by decide +kernel)
theorem ok_Router_choose {fd : FuncData} (T : Txt K mg) (F : FunD K "choose" "Router.choose" (C8.fnArgs s_Router_choose) (C8.fnBody s_Router_choose) (C8.fnScope s_Router_choose) [] [] (He.ma K (aC "Router" K) "choose") fd) (c_turned : C8.Met P w K mg base 1 (aC "Router" K) "_turned" (sp_Router_turned K) []) (c_load_of : C8.Met P w K mg base 4 (aC "HouseBoard" K) "load_of" (sp_HouseBoard_load_of K) []) :
    C8.Met P w K mg base 5 (aC "Router" K) "choose" (sp_Router_choose K) [] := by
  refine C8.met0 T.cl_Router T.m_Router_choose (fun_c8 F) (F.bindsN fun _ _ _ _ _ _ us hl => match us, hl with | [_, _, _, _], _ => rfl) sc_Router_choose (fun vs H Q E h => ?_) (fun cdv A outer s H vs Q E hr h => ?_)
  · obtain ⟨_, _, _, _, _, _, _, _, _, _, _, rfl, _⟩ := h
    rfl
  · have nd := sc_Router_choose.nd
    have hu := hu_of hr
    obtain ⟨A, R, S, rt, tn, sts, sa, n, K0, b, M, rfl, rk, hn, ro, tl, ow, qs, qn⟩ := h
    refine ⟨_, (pss_cons (ps_set (i := 4) nd rfl (Or.inl rfl) (pe_dget hu (pe_fld (pv 0) rfl) (pv 1) (fun _ _ => rfl)))
      (pss_cons (ps_if (pt_cmpR op_eq (pv 4) pe_str (nomark _)) (pss_one (ps_ret (C8.pe_mt c_turned hr (by decide) (pv 0) (pa_cons (pv 1) (pa_cons (pv 2) pa_nil))))) pss_nil)
      (pss_cons (ps_setLc (i := 5) (own := [("at", 6)]) rfl nd rfl rfl (sw_true rfl rfl rfl (by decide +kernel)) (pi_tup (pe_dget hu (pe_fld (pv 0) rfl) (pv 1) (fun _ _ => rfl))) (blkOk_by (own := [("at", 6)]) (N := N_Router_choose) (sc := (C8.fnScope s_Router_choose)) (by decide +kernel)) (fun _ _ _ _ _ => (pg_name (i := 6) nd rfl (Or.inl rfl))) (fun _ _ _ _ _ => (pts_one (pt_cmpR op_eq (pe_ix (ix_list : IxR _ (rIxL K)) (pv 2) (pv 6) (fun _ _ => rfl)) pe_str (nomark _)))) (fun _ _ _ _ _ => (pv 6)))
      (pss_cons (ps_if (pt_not (pt_truth (pv 5) (by intro _; rfl))) (pss_one (ps_ret pe_non)) pss_nil)
      (pss_cons (ps_if (pt_cmpR op_eq (pv 4) pe_str (nomark _)) (pss_one (ps_ret (pe_ix ix_list (pv 5) pe_int (fun _ _ => rfl)))) pss_nil)
      (pss_cons (ps_setLc (i := 7) (own := [("at", 6)]) rfl nd rfl rfl (sw_true rfl rfl rfl (by decide +kernel)) (pi_list (pv 5)) (blkOk_by (own := [("at", 6)]) (N := N_Router_choose) (sc := (C8.fnScope s_Router_choose)) (by decide +kernel)) (fun _ _ _ _ _ => (pg_name (i := 6) nd rfl (Or.inl rfl))) (fun _ _ _ _ _ => pts_nil) (fun _ _ _ _ _ => (C8.pe_mt c_load_of hr (by decide) (pv 3) (pa_cons (pv 6) pa_nil))))
      (pss_one (ps_ret (pe_ix ix_list (pv 5) (pe_bm PySem.F.plainAttrs_list PySem.F.slot_list_index PySem.F.type_list_index mt_index (pv 7) (pa_cons (pe_callB (cr_min rfl) (by rfl) T.n_min (by decide +kernel) (pa_cons (pv 7) pa_nil)) pa_nil)) (fun _ _ => rfl)))))))))), ?_⟩
    obtain ⟨L, sp0, bk⟩ := ow.lens
    have sp : Sep K0 H ((R.tu, .dK (md S.order (tnV tn))) :: (sa, .lst (stV sts)) :: (M ++ L)) := sp0
    have h1 := sp.ext _ _ rk.ob
    obtain ⟨f, h2, h3⟩ := rk.st
    have h4 := sp.ext _ _ (h3 n hn)
    have hlt := ro.le
    refine ⟨_, rfl, _, _, _, _, _, rfl, h1, T.cl_Router, T.t_Router_rules, rfl, _, rfl, R.ru, .str (rt n).rule, rfl, ?_, ?_⟩
    · exact gd_at (f := fun n => V.str (rt n).rule) hn ▸ DGet.k (k := .inr n) (sp.ext _ _ rk.rl)
    refine ⟨_, rfl, rfl, decide ((rt n).rule = "turn"), str_eq2, ?_⟩
    unfold chooseR at qs qn
    by_cases er : (rt n).rule = "turn"
    · rw [decide_eq_true er]
      rw [if_pos er] at qs qn
      refine iteT ?_
      exact ⟨_, rfl, R.ro, R.dr, _, rfl, h1, rfl, _, rfl, _, rfl, R, S, rt, tn, sts, sa, n, K0, _, rfl, rk, ow.ok, hn, ro, tl, sp, sp.c1, sp.ne10, fun p t H' e s' => qs p t H' e (bk K0 H' ((R.tu, .dK (md S.order (tnV (gset tn n t)))) :: (sa, .lst (stV sts)) :: M) (Same.refl _) s'), fun e => qn H e ow⟩
    rw [decide_eq_false er]
    rw [if_neg er] at qs qn
    refine iteF ?_
    refine ⟨_, rfl, _, _, _, _, _, rfl, h1, T.cl_Router, T.t_Router_stops, rfl, _, rfl, R.sp, .ref (f n), rfl, ?_, ?_⟩
    · exact gd_at (f := fun n => V.ref (f n)) hn ▸ DGet.k (k := .inr n) (sp.ext _ _ h2)
    refine ⟨_, rfl, ⟨_, t_of h4⟩, fun D hD => ?_⟩
    refine lc_it (walk_tup (xs := natV (rt n).stops)) (fun i H' => Sep K0 H' ((D, .lst (natV (((rt n).stops.take i).filter (isOn sts)))) :: (R.tu, .dK (md S.order (tnV tn))) :: (sa, .lst (stV sts)) :: (M ++ L))) (sp.own hD) ?_ ?_ ?_
    · rintro i H' _ s
      exact t_of (s.ext _ _ (h3 n hn))
    · rintro i v H1 H2 hi s ⟨rfl, e2⟩
      obtain ⟨k, hk, rfl⟩ := natV_get e2
      have hks := ro.lt k (List.mem_of_getElem? hk)
      obtain ⟨x, hx⟩ : ∃ x, sts[k]? = some x := ⟨_, List.getElem?_eq_getElem hks⟩
      have hxo : isOn sts k = decide (x = "on") := by unfold isOn; rw [List.getD_eq_getElem?_getD, hx]; rfl
      refine ⟨rfl, _, rfl, _, rfl, _, _, _, _, rfl, rfl, l_of s.c2, atIn (stV_at hx), rfl, decide (x = "on"), str_eq2, ?_⟩
      have hlen := List.length_filter_le (isOn sts) ((rt n).stops.take i)
      rw [List.length_take] at hlen
      rw [filter_snoc (isOn sts) hk, hxo]
      cases decide (x = "on") with
      | true =>
        refine iteT ⟨_, rfl, _, s.c0, sm6 (by rw [natV_len]; omega), ?_⟩
        rw [if_pos rfl, natV_snoc]
        exact s.put0
      | false =>
        refine iteF ?_
        rw [if_neg (by simp), List.append_nil]
        exact s
    rintro H1 s1
    rw [List.take_of_length_le (by rw [natV_len]; omega)] at s1
    have hlen := List.length_filter_le (isOn sts) (rt n).stops
    rcases hrun : (rt n).stops.filter (isOn sts) with _ | ⟨k, ks⟩
    · rw [hrun] at s1 qn
      refine ⟨_, rfl, false, .inl ⟨_, l_of s1.c0, rfl⟩, iteT ?_⟩
      exact (qn _ rfl (bk K0 H1 ((R.tu, .dK (md S.order (tnV tn))) :: (sa, .lst (stV sts)) :: M) (Same.refl _) s1.tail))
    rw [hrun] at s1 qs hlen
    dsimp only at qs
    have oks : ∀ {H'}, Sep K0 H' ((R.tu, .dK (md S.order (tnV tn))) :: (sa, .lst (stV sts)) :: (M ++ L)) → OwnB K A S K0 H' b ((R.tu, .dK (md S.order (tnV (gset tn n (tn n))))) :: (sa, .lst (stV sts)) :: M) := fun {H'} s => by
      rw [gset_self]
      exact bk K0 H' ((R.tu, .dK (md S.order (tnV tn))) :: (sa, .lst (stV sts)) :: M) (Same.refl _) s
    refine ⟨_, rfl, true, .inl ⟨_, l_of s1.c0, rfl⟩, iteF ?_⟩
    refine ⟨_, rfl, rfl, decide ((rt n).rule = "first"), str_eq2, ?_⟩
    by_cases ef : (rt n).rule = "first"
    · rw [decide_eq_true ef]
      refine iteT ?_
      exact ⟨_, rfl, _, _, _, _, rfl, rfl, l_of s1.c0, atI0, qs k (tn n) _ (by rw [if_pos ef]) (oks s1.tail)⟩
    rw [decide_eq_false ef]
    rw [if_neg ef] at qs
    refine iteF ?_
    refine ⟨_, rfl, _, rfl, ⟨_, l_of s1.c0⟩, fun D2 hD2 => ?_⟩
    have ll : (k :: ks).length ≤ 6 := by omega
    generalize hg : k :: ks = l at *
    generalize hf : (fun q : Nat => loadB S b (q : Nat)) = g at *
    refine lc_it (walk_list (xs := natV l)) (fun i H' => Sep K0 H' ((D2, .lst (natV ((l.take i).map g))) :: (D, .lst (natV l)) :: (R.tu, .dK (md S.order (tnV tn))) :: (sa, .lst (stV sts)) :: (M ++ L))) (s1.own hD2) ?_ ?_ ?_
    · rintro i H' _ s
      exact l_of s.c1
    · rintro i v H2 H3 hi s ⟨rfl, e2⟩
      obtain ⟨q, hq, rfl⟩ := natV_get e2
      have ow2 := bk K0 H3 ((D2, .lst (natV ((l.take i).map g))) :: (D, .lst (natV l)) :: (R.tu, .dK (md S.order (tnV tn))) :: (sa, .lst (stV sts)) :: M) (Same.refl _) s
      refine ⟨rfl, _, rfl, A.bo, A.db, _, rfl, ow2.obj, rfl, _, rfl, A, S, K0, b, _, (q : Nat), rfl, ow2, fun H4 g4 => ?_⟩
      have s4 := s.grow g4
      refine ⟨_, s4.c0, sm6 (by rw [natV_len]; simp; omega), ?_⟩
      have e : loadB S b (q : Nat) = g q := congrFun hf q
      rw [e, natV_snoc, take_snoc hq, List.map_append]
      exact s4.put0
    rintro H2 s2
    rw [List.take_of_length_le (by rw [natV_len]; omega)] at s2
    have lpos : 0 < l.length := by rw [← hg]; exact Nat.succ_pos _
    refine ⟨_, rfl, _, rfl, .inl ⟨rfl, _, .inl (.inl s2.c0)⟩, _, rfl, _, (l.map g).map fun (x : Nat) => (x : Int), rfl, ?_, by simp; omega, fun m hm hle => ?_⟩
    · rw [List.map_map]
      exact l_of s2.c0
    obtain ⟨x0, hx0, rfl⟩ := List.mem_map.mp hm
    obtain ⟨q0, hq0, rfl⟩ := List.mem_map.mp hx0
    obtain ⟨j, q, hj, hp, hno⟩ := first_at (p := fun z => g z = g q0) (l := l) ⟨q0, hq0, rfl⟩
    have hle2 : ∀ y ∈ l, g q ≤ g y := fun y hy => by
      have := hle _ (List.mem_map_of_mem (List.mem_map_of_mem hy))
      rw [hp]
      exact Int.ofNat_le.mp this
    have lq : leastL g l = q := least_at hj hle2 fun i hi z hz => by rw [hp]; exact hno i hi z hz
    rw [lq] at qs
    have gj : (l.map g)[j]? = some (g q) := by rw [List.getElem?_map, hj]; rfl
    refine ⟨_, _, _, j, _, rfl, rfl, l_of s2.c0, rfl, natV_flat, natV_at gj, ?_, fun i z hi hz => ?_, ?_⟩
    · rw [hp]
      simp [eqV]
    · obtain ⟨y, hy, rfl⟩ := natV_get hz
      rw [List.getElem?_map] at hy
      obtain ⟨y2, hy2, rfl⟩ := Option.map_eq_some_iff.mp hy
      have z := hno i hi y2 hy2
      simp [eqV]
      omega
    · exact ⟨_, _, _, _, rfl, rfl, l_of s2.c1, atIn (natV_at hj), qs q (tn n) _ rfl (oks s2.tail.tail)⟩
abbrev N_Router_init : List Str := ["self", "setup", "count", "routes", "everywhere", "name", "line", "rule", "processors"]
theorem sc_Router_init : FnScope N_Router_init ["self", "setup", "count", "routes"] (C8.fnScope s_Router_init) := C8.fnScope_by (by decide +kernel)
theorem ok_Router_init {fd : FuncData} (T : Txt K mg) (F : FunD K "__init__" "Router.__init__" (C8.fnArgs s_Router_init) (C8.fnBody s_Router_init) (C8.fnScope s_Router_init) [] [] (He.ma K (aC "Router" K) "__init__") fd) (c_order : FnP P w K mg base 1 (prA "Setup" "order" K) (sp_Setup_order K)) :
    C8.Mak P w K mg base 3 "Router" (aC "Router" K) (sp_Router_init K) [] := by
  refine C8.mak0 (ds := []) T.mk_Router T.g_Router (fun_c8 F) (F.bindsN fun _ _ _ _ _ _ us hl => match us, hl with | [_, _, _, _], _ => rfl) .nil sc_Router_init (fun vs H Q E h => ?_) (fun cdv A outer s H vs Q E hr h => ?_)
  · obtain ⟨_, _, _, _, _, _, _, _, _, rfl, _⟩ := h
    rfl
  · have nd := sc_Router_init.nd
    have hu := hu_of hr
    obtain ⟨x, dx, su, S, c, ra, rs, K0, M, rfl, sp, hS, ok, hc, hR, hN, q0⟩ := h
    obtain ⟨p, hpo⟩ := T.p_Setup_order
    refine ⟨_, (pss_cons (ps_set (i := 4) nd rfl (Or.inr rfl) (pe_tupRg rfl (by rfl) T.n_tuple (prg_1 (by rfl) T.n_range (pv 2))))
      (pss_cons (ps_fld (pv 0) (pe_dc (own := [("name", 5)]) rfl nd (pi_tup (C_prop hpo T.cl_Setup c_order hr (by decide) (pv 1))) (blkOk_by (own := [("name", 5)]) (N := N_Router_init) (sc := (C8.fnScope s_Router_init)) (by decide +kernel)) (fun _ _ _ _ _ => (pg_name (i := 5) nd rfl (Or.inl rfl))) (fun _ _ _ _ _ => pts_nil) (fun _ _ _ _ _ => (pv 5)) (fun _ _ _ _ _ => pe_str)) rfl)
      (pss_cons (ps_fld (pv 0) (pe_dc (own := [("name", 5)]) rfl nd (pi_tup (C_prop hpo T.cl_Setup c_order hr (by decide) (pv 1))) (blkOk_by (own := [("name", 5)]) (N := N_Router_init) (sc := (C8.fnScope s_Router_init)) (by decide +kernel)) (fun _ _ _ _ _ => (pg_name (i := 5) nd rfl (Or.inl rfl))) (fun _ _ _ _ _ => pts_nil) (fun _ _ _ _ _ => (pv 5)) (fun _ _ _ _ _ => (pv 4))) rfl)
      (pss_cons (ps_for PassesOwn.never rfl (pi_tup (pv 3)) (pg_tup rfl (pgs_cons (pg_name (i := 6) nd rfl (Or.inl rfl)) (pgs_cons (pg_name (i := 7) nd rfl (Or.inl rfl)) (pgs_cons (pg_name (i := 8) nd rfl (Or.inl rfl)) pgs_nil)))) (pss_cons (ps_dput hu (pe_fld (pv 0) rfl) (pv 6) (pv 7) rfl)
      (pss_one (ps_dput hu (pe_fld (pv 0) rfl) (pv 6) (pv 8) rfl))))
      (pss_one (ps_fld (pv 0) (pe_dc (own := [("name", 5)]) rfl nd (pi_tup (C_prop hpo T.cl_Setup c_order hr (by decide) (pv 1))) (blkOk_by (own := [("name", 5)]) (N := N_Router_init) (sc := (C8.fnScope s_Router_init)) (by decide +kernel)) (fun _ _ _ _ _ => (pg_name (i := 5) nd rfl (Or.inl rfl))) (fun _ _ _ _ _ => pts_nil) (fun _ _ _ _ _ => (pv 5)) (fun _ _ _ _ _ => pe_int)) rfl)))))), ?_⟩
    obtain ⟨dx2, la, wa, bn, oa, xs, h3, h3b, h3c, _⟩ := hS.ex
    obtain ⟨xs2, hr1, hr2⟩ := hR
    refine ⟨_, rfl, c, rfl, RgOk.of_le (by omega) (by omega) (by omega) (by omega), fun q hq => ?_⟩
    have s0 := sp.keep (o := .tup (rgV 0 (c : Nat))) hq
    have gq : Same K0 (upd K0 q (.tup (rgV 0 (c : Nat)))) := sp.newk hq
    refine ⟨_, rfl, su, _, _, rfl, s0.ext _ _ (gq _ _ h3), su, S, K0, rfl, hS, Same.tr gq s0.ext, fun oaru hoaru => ?_⟩
    refine ⟨_, rfl, ⟨_, t_of (s0.ext _ _ (gq _ _ hoaru))⟩, fun ru hD => ?_⟩
    refine dc_it (walk_tup (xs := S.order.map V.str)) (fun i H' => Sep (upd K0 q (.tup (rgV 0 (c : Nat)))) H' ((ru, .dK (gd (S.order.take i) (fun _ => V.str "first"))) :: (x, .ins (aC "Router" K) dx []) :: M)) (s0.own hD) ?_ ?_ ?_
    · rintro i H' _ sp
      exact t_of (sp.ext _ _ (gq _ _ hoaru))
    · rintro i v H1 H2 hi sp ⟨rfl, e2⟩
      rw [List.getElem?_map] at e2
      obtain ⟨n, hn, rfl⟩ := Option.map_eq_some_iff.mp e2
      refine ⟨rfl, ⟨_, rfl, _, .inr n, rfl, sp.c0, ?_, ?_⟩⟩
      · exact sml (m := 12) (by have := ok.len; simp [gd]; omega) (by decide)
      · rw [gd_snoc (f := fun _ => V.str "first") ok.nd hn]
        exact sp.put0
    rintro Hru bru
    rw [List.take_of_length_le (by simp)] at bru
    refine ⟨_, rfl, _, _, _, _, rfl, bru.c1, T.cl_Router, T.t_Router_rules, (by simp), ?_⟩
    have sru := bru.swap.put0 (o' := .ins (aC "Router" K) dx [("_rules", .ref ru)])
    refine ⟨_, rfl, su, _, _, rfl, sru.ext _ _ (gq _ _ h3), su, S, K0, rfl, hS, Same.tr gq sru.ext, fun oast hoast => ?_⟩
    refine ⟨_, rfl, ⟨_, t_of (sru.ext _ _ (gq _ _ hoast))⟩, fun st hD => ?_⟩
    refine dc_it (walk_tup (xs := S.order.map V.str)) (fun i H' => Sep (upd K0 q (.tup (rgV 0 (c : Nat)))) H' ((st, .dK (gd (S.order.take i) (fun _ => V.ref q))) :: (x, .ins (aC "Router" K) dx [("_rules", .ref ru)]) :: (ru, .dK (gd S.order (fun _ => V.str "first"))) :: M)) (sru.own hD) ?_ ?_ ?_
    · rintro i H' _ sp
      exact t_of (sp.ext _ _ (gq _ _ hoast))
    · rintro i v H1 H2 hi sp ⟨rfl, e2⟩
      rw [List.getElem?_map] at e2
      obtain ⟨n, hn, rfl⟩ := Option.map_eq_some_iff.mp e2
      refine ⟨rfl, ⟨_, rfl, _, rfl, _, .inr n, rfl, sp.c0, ?_, ?_⟩⟩
      · exact sml (m := 12) (by have := ok.len; simp [gd]; omega) (by decide)
      · rw [gd_snoc (f := fun _ => V.ref q) ok.nd hn]
        exact sp.put0
    rintro Hst bst
    rw [List.take_of_length_le (by simp)] at bst
    refine ⟨_, rfl, _, _, _, _, rfl, bst.c1, T.cl_Router, T.t_Router_stops, (by simp), ?_⟩
    have sst := bst.swap.put0 (o' := .ins (aC "Router" K) dx [("_rules", .ref ru), ("_stops", .ref st)])
    refine ⟨_, rfl, _, rfl, ⟨_, Same.tup sst.ext (Same.tup gq hr1)⟩, ?_⟩
    refine for_it (walk_tup (xs := xs2)) (fun i σ H' => ∃ y5 y6 y7 y8 f, σ = [some (.ref x), some (.ref su), some (.int (c : Nat)), some (.ref ra), some (.ref q), y5, y6, y7, y8] ∧ Sep (upd K0 q (.tup (rgV 0 (c : Nat)))) H' ((x, .ins (aC "Router" K) dx [("_rules", .ref ru), ("_stops", .ref st)]) :: (st, .dK (gd S.order fun n => .ref (f n))) :: (ru, .dK (gd S.order fun n => .str (rtOf c (rs.take i) n).rule)) :: M) ∧ ∀ n ∈ S.order, upd K0 q (.tup (rgV 0 (c : Nat))) (f n) = some (.tup (natV (rtOf c (rs.take i) n).stops))) ⟨_, _, _, _, fun _ => q, rfl, by rw [List.take_zero]; exact sst, fun n _ => by rw [upd_same, rgV_nat]; rfl⟩ ?_ ?_ ?_
    · rintro i σ H' _ ⟨y5, y6, y7, y8, f, _, s, _⟩
      exact Same.tup s.ext (Same.tup gq hr1)
    · rintro i v σ H1 H2 hi ⟨y5, y6, y7, y8, f, rfl, s, hf⟩ ⟨rfl, e2⟩
      obtain ⟨r, hr3, t, p2, rfl, ht, hp2⟩ := pget hr2 e2
      have hn := hN r (List.mem_of_getElem? hr3)
      have dp := DPut.k (k := .inr r.name) (v := .str r.rule) s.c2 (gd_len ok _)
      rw [putK_gd hn, gset_rule r.rule r.stops, ← rtOf_snoc hr3] at dp
      refine ⟨_, _, rfl, Same.tup s.ext (Same.tup gq ht), rfl, _, _, rfl, _, _, rfl, _, _, rfl, rfl, ?_⟩
      have s2 := s.rot3
      have s3 := s2.put0 (o' := .dK (gd S.order fun n => .str (rtOf c (rs.take (i + 1)) n).rule))
      have s4 := s3.unrot3
      have dq := DPut.k (k := .inr r.name) (v := .ref p2) s4.c1 (gd_len ok _)
      rw [putK_gd hn, gset_ref] at dq
      refine ⟨_, rfl, _, rfl, _, _, _, _, _, rfl, s.c0, T.cl_Router, T.t_Router_rules, rfl, _, rfl, ru, _, rfl, dp, ?_⟩
      refine ⟨_, rfl, _, rfl, _, _, _, _, _, rfl, s4.c0, T.cl_Router, T.t_Router_stops, rfl, _, rfl, st, _, rfl, dq, ?_⟩
      refine ⟨_, _, _, _, gset f r.name p2, rfl, s4.swap.put0.swap, fun n m => ?_⟩
      by_cases e : n = r.name
      · rw [e, gset_eq, rtOf_snoc hr3, gset_eq]
        exact gq _ _ hp2
      · rw [rtOf_snoc hr3]
        unfold gset
        rw [if_neg e, if_neg e]
        exact hf n m
    rintro σ H1 ⟨y5, y6, y7, y8, f, rfl, s9, hf⟩
    rw [List.take_of_length_le (Nat.le_of_eq hr2.length.symm)] at s9 hf
    refine ⟨_, rfl, su, _, _, rfl, s9.ext _ _ (gq _ _ h3), su, S, K0, rfl, hS, Same.tr gq s9.ext, fun oatu hoatu => ?_⟩
    refine ⟨_, rfl, ⟨_, t_of (s9.ext _ _ (gq _ _ hoatu))⟩, fun tu hD => ?_⟩
    refine dc_it (walk_tup (xs := S.order.map V.str)) (fun i H' => Sep (upd K0 q (.tup (rgV 0 (c : Nat)))) H' ((tu, .dK (md (S.order.take i) (tnV fun _ => 0))) :: (x, .ins (aC "Router" K) dx [("_rules", .ref ru), ("_stops", .ref st)]) :: (st, .dK (gd S.order fun n => .ref (f n))) :: (ru, .dK (gd S.order fun n => .str (rtOf c rs n).rule)) :: M)) (s9.own hD) ?_ ?_ ?_
    · rintro i H' _ sp
      exact t_of (sp.ext _ _ (gq _ _ hoatu))
    · rintro i v H1 H2 hi sp ⟨rfl, e2⟩
      rw [List.getElem?_map] at e2
      obtain ⟨n, hn, rfl⟩ := Option.map_eq_some_iff.mp e2
      refine ⟨rfl, ⟨_, rfl, _, .inr n, rfl, sp.c0, ?_, ?_⟩⟩
      · exact sml (m := 12) (by have := ok.len; simp [md]; omega) (by decide)
      · rw [show (V.int 0) = .int (tnV (fun _ => 0) n) from rfl, md_snoc (f := tnV fun _ => 0) ok.nd hn]
        exact sp.put0
    rintro Htu btu
    rw [List.take_of_length_le (by simp)] at btu
    refine ⟨_, rfl, _, _, _, _, rfl, btu.c1, T.cl_Router, T.t_Router_turns, (by simp), ?_⟩
    have stu := btu.swap.put0 (o' := .ins (aC "Router" K) dx [("_rules", .ref ru), ("_stops", .ref st), ("_turns", .ref tu)])
    have u1 := stu.freeze
    have n1 := stu.new0
    have u2 := u1.swap.freeze
    have n2 := u1.swap.new0
    have u3 := u2.swap.freeze
    have n3 := u2.swap.new0
    refine q0 _ _ ⟨x, dx, ru, st, tu⟩ (Same.tr gq (Same.tr n1 (Same.tr n2 n3))) rfl ⟨?_, ?_, f, ?_, fun n m => ?_⟩ u3
    · exact n3 _ _ (n2 _ _ upd_same)
    · exact upd_same
    · exact n3 _ _ upd_same
    · exact n3 _ _ (n2 _ _ (n1 _ _ (hf n m)))
end
end Cb

namespace Cb
open PySem PySem.Spec PyProof.Rows L2

structure StormD where
  name : Str
  most : Int
  window : Int
  hold : Int
structure AdW where
  wo : Addr
  dw : Addr
  ss : Addr
  cn : Addr
  un : Addr
def stN (ds : List StormD) : List Str := ds.map (·.name)
def intV (l : List Int) : List V := l.map V.int
def woI (K : PySem.W.Frag) (W : AdW) : HO := .ins (aC "StormWatch" K) W.dw [("_storms", .ref W.ss), ("_counted", .ref W.cn), ("_until", .ref W.un)]
structure WatchK (K : PySem.W.Frag) (W : AdW) (ds : List StormD) (K0 : Hp) : Prop where
  ob : K0 W.wo = some (woI K W)
  st : ∃ f : Str → Addr, K0 W.ss = some (.dK (gd (stN ds) fun n => .ref (f n))) ∧ ∀ d ∈ ds, K0 (f d.name) = some (.tup [.int d.most, .int d.window, .int d.hold])
  nd : (stN ds).Nodup
  le : ds.length ≤ 12
theorem WatchK.up {K : PySem.W.Frag} {W : AdW} {ds : List StormD} {H H' : Hp} (e : Same H H') (h : WatchK K W ds H) : WatchK K W ds H' := ⟨e _ _ h.ob, h.st.elim fun f z => ⟨f, e _ _ z.1, fun n m => e _ _ (z.2 n m)⟩, h.nd, h.le⟩
structure WdD where
  cnt : Str → List Int
  unt : Str → Int
def layW (W : AdW) (ds : List StormD) (g : Str → Addr) (wd : WdD) (M : List (Addr × HO)) : List (Addr × HO) := (W.cn, .dK (gd (stN ds) fun n => .ref (g n))) :: (W.un, .dK (md (stN ds) wd.unt)) :: M
structure OwnW (K : PySem.W.Frag) (W : AdW) (ds : List StormD) (K0 H : Hp) (wd : WdD) (M : List (Addr × HO)) : Prop where
  wk : WatchK K W ds K0
  ex : ∃ g, (∀ d ∈ ds, K0 (g d.name) = some (.tup (intV (wd.cnt d.name)))) ∧ Sep K0 H (layW W ds g wd M)
theorem OwnW.ext {K : PySem.W.Frag} {W : AdW} {ds : List StormD} {K0 H : Hp} {wd : WdD} {M : List (Addr × HO)} (h : OwnW K W ds K0 H wd M) : Same K0 H := by
  obtain ⟨g, _, s⟩ := h.ex
  exact s.ext
def heldR (ds : List StormD) (wd : WdD) (n : Str) (t : Int) : Option Int := if n ∈ stN ds then (if wd.unt n < t then none else some (wd.unt n)) else none
def stillR (d : StormD) (wd : WdD) (t : Int) : List Int := (wd.cnt d.name).filter fun b => decide (t - d.window < b)
def noteC (d : StormD) (wd : WdD) (t : Int) : List Int := stillR d wd t ++ [t]
def noteR (ds : List StormD) (wd : WdD) (n : Str) (t : Int) : Bool × WdD :=
  match ds.find? (fun d => decide (d.name = n)) with
  | none => (false, wd)
  | some d => if ((noteC d wd t).length : Int) ≤ d.most then (false, ⟨gset wd.cnt n (noteC d wd t), wd.unt⟩) else (true, ⟨gset wd.cnt n (noteC d wd t), nset wd.unt n (t + d.hold)⟩)
theorem intV_len {l : List Int} : (intV l).length = l.length := List.length_map _
theorem intV_get {l : List Int} {i : Nat} {v : V} (h : (intV l)[i]? = some v) : ∃ k, l[i]? = some k ∧ V.int k = v := by
  unfold intV at h
  rw [List.getElem?_map] at h
  exact Option.map_eq_some_iff.mp h
theorem intV_snoc {a : List Int} {k : Int} : intV a ++ [V.int k] = intV (a ++ [k]) := by simp [intV]
theorem stN_find : ∀ {ds : List StormD}, (stN ds).Nodup → ∀ {d : StormD}, d ∈ ds → ds.find? (fun x => decide (x.name = d.name)) = some d
  | x :: ds, nd, d, h => by
    have n2 := List.nodup_cons.mp nd
    by_cases e : x.name = d.name
    · rcases List.mem_cons.mp h with rfl | h2
      · rw [List.find?_cons_of_pos (by simp)]
      · exact absurd (show x.name ∈ stN ds by rw [e]; exact List.mem_map_of_mem h2) n2.1
    · rw [List.find?_cons_of_neg (by simp [e])]
      rcases List.mem_cons.mp h with rfl | h2
      · exact absurd rfl e
      · exact stN_find n2.2 h2
def sp_StormWatch_held_until (K : PySem.W.Frag) : Sp := fun vs H Q _ => ∃ (W : AdW) (ds : List StormD) (K0 : Hp) (wd : WdD) (M : List (Addr × HO)) (n : Str) (t : Int), vs = [.ref W.wo, .str n, .int t] ∧ OwnW K W ds K0 H wd M ∧ Q (optV (heldR ds wd n t)) H
def sp_StormWatch_still_counted (K : PySem.W.Frag) : Sp := fun vs H Q _ => ∃ (W : AdW) (ds : List StormD) (K0 : Hp) (wd : WdD) (M : List (Addr × HO)) (d : StormD) (t : Int), vs = [.ref W.wo, .str d.name, .int t] ∧ OwnW K W ds K0 H wd M ∧ d ∈ ds ∧ (wd.cnt d.name).length ≤ 900000 ∧
  ∀ a H', Same H H' → H a = none → H' a = some (.tup (intV (stillR d wd t))) → Q (.ref a) H'
def sp_StormWatch_note_begin (K : PySem.W.Frag) : Sp := fun vs H Q _ => ∃ (W : AdW) (ds : List StormD) (K0 : Hp) (wd : WdD) (M : List (Addr × HO)) (n : Str) (t : Int), vs = [.ref W.wo, .str n, .int t] ∧ OwnW K W ds K0 H wd M ∧ (∀ d ∈ ds, (wd.cnt d.name).length ≤ 900000) ∧
  ∀ K1 H', Same K0 K1 → OwnW K W ds K1 H' (noteR ds wd n t).2 M → Q (.bl (noteR ds wd n t).1) H'
theorem stN_mem {ds : List StormD} {d : StormD} (h : d ∈ ds) : d.name ∈ stN ds := List.mem_map_of_mem h
theorem gdN_len {ds : List StormD} (h : ds.length ≤ 12) (f : Str → V) : (gd (stN ds) f).length < sizeLine := sml (m := 12) (by simpa [gd, stN] using h) (by decide)
theorem mdN_len {ds : List StormD} (h : ds.length ≤ 12) (f : Str → Int) : (md (stN ds) f).length < sizeLine := sml (m := 12) (by simpa [md, stN] using h) (by decide)
def StormAt (K : PySem.W.Frag) (H : Hp) (v : V) (d : StormD) : Prop := ∃ t, v = .ref t ∧ SqT K H t [.str d.name, .int d.most, .int d.window, .int d.hold]
theorem StormAt.up {K : PySem.W.Frag} {H H' : Hp} {v : V} {r : StormD} (e : Same H H') (h : StormAt K H v r) : StormAt K H' v r := h.elim fun a h => ⟨a, h.1, Same.tup e h.2⟩
def StormsAt (K : PySem.W.Frag) (H : Hp) (a : Addr) (rs : List StormD) : Prop := ∃ xs, SqT K H a xs ∧ Paired (StormAt K H) xs rs
theorem StormsAt.up {K : PySem.W.Frag} {H H' : Hp} {a : Addr} {rs : List StormD} (e : Same H H') (h : StormsAt K H a rs) : StormsAt K H' a rs := h.elim fun xs z => ⟨xs, Same.tup e z.1, z.2.mono fun _ _ q => StormAt.up e q⟩
def wd0 : WdD := ⟨fun _ => [], fun _ => -1⟩
theorem stN_at {ds : List StormD} {i : Nat} {d : StormD} (h : ds[i]? = some d) : (stN ds)[i]? = some d.name := by
  unfold stN
  rw [List.getElem?_map, h]
  rfl
theorem gd_snocR {f : Str → Addr} {o : List Str} (nd : o.Nodup) {i : Nat} {n : Str} {a : Addr} (h : o[i]? = some n) : putK (gd (o.take i) fun m => V.ref (f m)) (.inr n) (.ref a) = gd (o.take (i + 1)) fun m => V.ref (gset f n a m) := by
  have e : (gd (o.take i) fun m => V.ref (f m)) = gd (o.take i) fun m => V.ref (gset f n a m) := by
    unfold gd
    refine List.map_congr_left fun m hm => ?_
    have : m ≠ n := fun e => nodup_take nd h (e ▸ hm)
    show (Sum.inr m, V.ref (f m)) = (Sum.inr m, V.ref (if m = n then a else f m))
    rw [if_neg this]
  rw [e]
  have z := gd_snoc (f := fun m => V.ref (gset f n a m)) nd h
  rw [gset_eq] at z
  exact z
theorem stN_take {ds : List StormD} {i : Nat} {d : StormD} (h : d ∈ ds.take i) : d.name ∈ (stN ds).take i := by
  unfold stN
  rw [← List.map_take]
  exact List.mem_map_of_mem h
theorem cut1 {a b c d : V} : cutV [a, b, c, d] (some 1) none = [b, c, d] := by simp [cutV, HT.sIx]
def sp_StormWatch_init (K : PySem.W.Frag) : Sp := fun vs H Q _ => ∃ (x dx sa : Addr) (ds : List StormD) (K0 : Hp) (M : List (Addr × HO)), vs = [.ref x, .ref sa] ∧ Sep K0 H ((x, .ins (aC "StormWatch" K) dx []) :: M) ∧ StormsAt K K0 sa ds ∧ (stN ds).Nodup ∧ ds.length ≤ 12 ∧
  ∀ K1 H' W, Same K0 K1 → W.wo = x → OwnW K W ds K1 H' wd0 M → Q .non H'

section
variable {P : Program} {w : World} {K : PySem.W.Frag} {mg : Str → Option Value} {base : Heap}

abbrev N_StormWatch_held_until : List Str := ["self", "line", "tick"]
theorem sc_StormWatch_held_until : FnScope N_StormWatch_held_until ["self", "line", "tick"] (C8.fnScope s_StormWatch_held_until) := C8.fnScope_by (by decide +kernel)
theorem ok_StormWatch_held_until {fd : FuncData} (T : Txt K mg) (F : FunD K "held_until" "StormWatch.held_until" (C8.fnArgs s_StormWatch_held_until) (C8.fnBody s_StormWatch_held_until) (C8.fnScope s_StormWatch_held_until) [] [] (He.ma K (aC "StormWatch" K) "held_until") fd) :
    C8.Met P w K mg base 1 (aC "StormWatch" K) "held_until" (sp_StormWatch_held_until K) [] := by
  refine C8.met0 T.cl_StormWatch T.m_StormWatch_held_until (fun_c8 F) (F.bindsN fun _ _ _ _ _ _ us hl => match us, hl with | [_, _, _], _ => rfl) sc_StormWatch_held_until (fun vs H Q E h => ?_) (fun cdv A outer s H vs Q E hr h => ?_)
  · obtain ⟨_, _, _, _, _, _, _, rfl, _⟩ := h
    rfl
  · have nd := sc_StormWatch_held_until.nd
    have hu := hu_of hr
    obtain ⟨W, ds, K0, wd, M, n, t, rfl, ow, q⟩ := h
    refine ⟨_, (pss_cons (ps_if (PW.pt (pw_or (pt_cmp (pc_dnotin hu (pv 1) (pe_fld (pv 0) rfl))) (pw_or1 (pt_cmpR op_lt (pe_dget hu (pe_fld (pv 0) rfl) (pv 1) (fun _ _ => rfl)) (pv 2) (nomark _))))) (pss_one (ps_ret pe_non)) pss_nil)
      (pss_one (ps_ret (pe_dget hu (pe_fld (pv 0) rfl) (pv 1) (fun _ _ => rfl))))), ?_⟩
    obtain ⟨g, hg, sp⟩ := ow.ex
    have h1 := ow.ext _ _ ow.wk.ob
    obtain ⟨f, h2, h3⟩ := ow.wk.st
    unfold heldR at q
    by_cases hn : n ∈ stN ds
    · rw [if_pos hn] at q
      have du : DGet H W.un (kV (.inr n)) (some (.int (wd.unt n))) := md_at (f := wd.unt) hn ▸ DGet.k (k := .inr n) sp.c1
      refine ⟨_, rfl, _, rfl, _, _, _, _, _, rfl, h1, T.cl_StormWatch, T.t_StormWatch_storms, rfl, W.ss, some (.ref (f n)), rfl, ?_, false, rfl, iteF ?_⟩
      · exact gd_at (f := fun n => V.ref (f n)) hn ▸ DGet.k (k := .inr n) (ow.ext _ _ h2)
      refine ⟨_, rfl, _, _, _, _, _, rfl, h1, T.cl_StormWatch, T.t_StormWatch_until, rfl, _, rfl, W.un, _, rfl, du, _, rfl, _, _, rfl, rfl, decide (wd.unt n < t), rfl, ?_⟩
      by_cases ht : wd.unt n < t
      · rw [if_pos ht] at q
        rw [decide_eq_true ht]
        exact iteT q
      · rw [if_neg ht] at q
        rw [decide_eq_false ht]
        refine iteF ?_
        exact ⟨_, rfl, _, _, _, _, _, rfl, h1, T.cl_StormWatch, T.t_StormWatch_until, rfl, _, rfl, W.un, _, rfl, du, q⟩
    rw [if_neg hn] at q
    refine ⟨_, rfl, _, rfl, _, _, _, _, _, rfl, h1, T.cl_StormWatch, T.t_StormWatch_storms, rfl, W.ss, none, rfl, ?_, true, rfl, iteT ?_⟩
    · exact gd_no (f := fun n => V.ref (f n)) hn ▸ DGet.k (k := .inr n) (ow.ext _ _ h2)
    exact iteT q
abbrev N_StormWatch_still_counted : List Str := ["self", "line", "tick", "window", "begin"]
theorem sc_StormWatch_still_counted : FnScope N_StormWatch_still_counted ["self", "line", "tick"] (C8.fnScope s_StormWatch_still_counted) := C8.fnScope_by (by decide +kernel)
theorem ok_StormWatch_still_counted {fd : FuncData} (T : Txt K mg) (F : FunD K "_still_counted" "StormWatch._still_counted" (C8.fnArgs s_StormWatch_still_counted) (C8.fnBody s_StormWatch_still_counted) (C8.fnScope s_StormWatch_still_counted) [] [] (He.ma K (aC "StormWatch" K) "_still_counted") fd) :
    C8.Met P w K mg base 1 (aC "StormWatch" K) "_still_counted" (sp_StormWatch_still_counted K) [] := by
  refine C8.met0 T.cl_StormWatch T.m_StormWatch_still_counted (fun_c8 F) (F.bindsN fun _ _ _ _ _ _ us hl => match us, hl with | [_, _, _], _ => rfl) sc_StormWatch_still_counted (fun vs H Q E h => ?_) (fun cdv A outer s H vs Q E hr h => ?_)
  · obtain ⟨_, _, _, _, _, _, _, rfl, _⟩ := h
    rfl
  · have nd := sc_StormWatch_still_counted.nd
    have hu := hu_of hr
    obtain ⟨W, ds, K0, wd, M, d, t, rfl, ow, hd, hl, q⟩ := h
    refine ⟨_, (pss_cons (ps_set (i := 3) nd rfl (Or.inr rfl) (pe_ix ix_tup (pe_dget hu (pe_fld (pv 0) rfl) (pv 1) (fun _ _ => rfl)) pe_int (fun _ _ => rfl)))
      (pss_one (ps_ret (pe_callTy call_tuple_of (by rfl) T.n_tuple (by decide +kernel) (pa_cons (pe_lc (own := [("begin", 4)]) rfl nd (pi_tup (pe_dget hu (pe_fld (pv 0) rfl) (pv 1) (fun _ _ => rfl))) (blkOk_by (own := [("begin", 4)]) (N := N_StormWatch_still_counted) (sc := (C8.fnScope s_StormWatch_still_counted)) (by decide +kernel)) (fun _ _ _ _ _ => (pg_name (i := 4) nd rfl (Or.inl rfl))) (fun _ _ _ _ _ => (pts_one (pt_cmpR op_gt (pv 4) (pe_op op_sub (pv 2) (pv 3)) (nomark _)))) (fun _ _ _ _ _ => (pv 4))) pa_nil))))), ?_⟩
    obtain ⟨g, hg, sp⟩ := ow.ex
    have h1 := ow.ext _ _ ow.wk.ob
    obtain ⟨f, h2, h3⟩ := ow.wk.st
    have h4 := ow.ext _ _ (h3 d hd)
    have hn := stN_mem hd
    have hc := ow.ext _ _ (hg d hd)
    refine ⟨_, rfl, _, _, _, _, _, rfl, h1, T.cl_StormWatch, T.t_StormWatch_storms, rfl, _, rfl, W.ss, .ref (f d.name), rfl, ?_, _, _, _, _, rfl, rfl, t_of h4, rfl, ?_⟩
    · exact gd_at (f := fun n => V.ref (f n)) hn ▸ DGet.k (k := .inr d.name) (ow.ext _ _ h2)
    refine ⟨_, rfl, _, _, _, _, _, rfl, h1, T.cl_StormWatch, T.t_StormWatch_counted, rfl, _, rfl, W.cn, .ref (g d.name), rfl, ?_, ?_⟩
    · exact gd_at (f := fun n => V.ref (g n)) hn ▸ DGet.k (k := .inr d.name) sp.c0
    refine ⟨_, rfl, ⟨_, t_of hc⟩, fun D hD => ?_⟩
    refine lc_it (walk_tup (xs := intV (wd.cnt d.name))) (fun i H' => Sep H H' [(D, .lst (intV (((wd.cnt d.name).take i).filter fun b => decide (t - d.window < b))))]) (Sep.nil.own hD) ?_ ?_ ?_
    · rintro i H' _ s
      exact t_of (s.ext _ _ hc)
    · rintro i v H1 H2 hi s ⟨rfl, e2⟩
      obtain ⟨k, hk, rfl⟩ := intV_get e2
      have hlen := List.length_filter_le (fun b => decide (t - d.window < b)) ((wd.cnt d.name).take i)
      rw [List.length_take] at hlen
      refine ⟨rfl, _, rfl, _, rfl, _, rfl, _, _, rfl, rfl, _, _, rfl, rfl, decide (t - d.window < k), rfl, ?_⟩
      rw [filter_snoc (fun b => decide (t - d.window < b)) hk]
      cases decide (t - d.window < k) with
      | true =>
        refine iteT ⟨_, rfl, _, s.c0, sm6 (by rw [intV_len]; omega), ?_⟩
        rw [if_pos rfl, ← intV_snoc]
        exact s.put0
      | false =>
        refine iteF ?_
        rw [if_neg (by simp), List.append_nil]
        exact s
    rintro H1 s1
    rw [List.take_of_length_le (by rw [intV_len]; exact Nat.le_refl _)] at s1
    exact ⟨_, _, rfl, .inl ⟨l_of s1.c0, fun a ha => q a _ (same_new s1.ext ha) (s1.free ha).1 upd_same⟩⟩
abbrev N_StormWatch_note_begin : List Str := ["self", "line", "tick", "most", "_", "hold", "counted"]
theorem sc_StormWatch_note_begin : FnScope N_StormWatch_note_begin ["self", "line", "tick"] (C8.fnScope s_StormWatch_note_begin) := C8.fnScope_by (by decide +kernel)
theorem ok_StormWatch_note_begin {fd : FuncData} (T : Txt K mg) (F : FunD K "note_begin" "StormWatch.note_begin" (C8.fnArgs s_StormWatch_note_begin) (C8.fnBody s_StormWatch_note_begin) (C8.fnScope s_StormWatch_note_begin) [] [] (He.ma K (aC "StormWatch" K) "note_begin") fd) (c_still_counted : C8.Met P w K mg base 1 (aC "StormWatch" K) "_still_counted" (sp_StormWatch_still_counted K) []) :
    C8.Met P w K mg base 2 (aC "StormWatch" K) "note_begin" (sp_StormWatch_note_begin K) [] := by
  refine C8.met0 T.cl_StormWatch T.m_StormWatch_note_begin (fun_c8 F) (F.bindsN fun _ _ _ _ _ _ us hl => match us, hl with | [_, _, _], _ => rfl) sc_StormWatch_note_begin (fun vs H Q E h => ?_) (fun cdv A outer s H vs Q E hr h => ?_)
  · obtain ⟨_, _, _, _, _, _, _, rfl, _⟩ := h
    rfl
  · have nd := sc_StormWatch_note_begin.nd
    have hu := hu_of hr
    obtain ⟨W, ds, K0, wd, M, n, t, rfl, ow, hl, q⟩ := h
    refine ⟨_, (pss_cons (ps_if (pt_cmp (pc_dnotin hu (pv 1) (pe_fld (pv 0) rfl))) (pss_one (ps_ret pe_bl)) pss_nil)
      (pss_cons (ps_asg (pe_dget hu (pe_fld (pv 0) rfl) (pv 1) (fun _ _ => rfl)) (pg_tup rfl (pgs_cons (pg_name (i := 3) nd rfl (Or.inl rfl)) (pgs_cons (pg_name (i := 4) nd rfl (Or.inl rfl)) (pgs_cons (pg_name (i := 5) nd rfl (Or.inl rfl)) pgs_nil)))))
      (pss_cons (ps_set (i := 6) nd rfl (Or.inl rfl) (pe_tup (StX.pa_star (C8.pe_mt c_still_counted hr (by decide) (pv 0) (pa_cons (pv 1) (pa_cons (pv 2) pa_nil))) (pa_cons (pv 2) pa_nil))))
      (pss_cons (ps_dput hu (pe_fld (pv 0) rfl) (pv 1) (pv 6) rfl)
      (pss_cons (ps_if (pt_cmpR op_le (pe_callB call_len_seq (by rfl) T.n_len (by decide +kernel) (pa_cons (pv 6) pa_nil)) (pv 3) (nomark _)) (pss_one (ps_ret pe_bl)) pss_nil)
      (pss_cons (ps_dput hu (pe_fld (pv 0) rfl) (pv 1) (pe_op op_add (pv 2) (pv 5)) rfl)
      (pss_one (ps_ret pe_bl)))))))), ?_⟩
    obtain ⟨g, hg, sp⟩ := ow.ex
    have h1 := ow.ext _ _ ow.wk.ob
    obtain ⟨f, h2, h3⟩ := ow.wk.st
    by_cases hn : n ∈ stN ds
    · obtain ⟨d, hd, rfl⟩ := List.mem_map.mp hn
      have dg : DGet H W.ss (kV (.inr d.name)) (some (.ref (f d.name))) := gd_at (f := fun n => V.ref (f n)) hn ▸ DGet.k (k := .inr d.name) (ow.ext _ _ h2)
      have h4 := ow.ext _ _ (h3 d hd)
      have ef : ds.find? (fun x => decide (x.name = d.name)) = some d := stN_find ow.wk.nd hd
      unfold noteR at q
      rw [ef] at q
      dsimp only at q
      refine ⟨_, rfl, _, rfl, _, _, _, _, _, rfl, h1, T.cl_StormWatch, T.t_StormWatch_storms, rfl, W.ss, _, rfl, dg, false, rfl, iteF ?_⟩
      refine ⟨_, rfl, _, _, _, _, _, rfl, h1, T.cl_StormWatch, T.t_StormWatch_storms, rfl, _, rfl, W.ss, _, rfl, dg, _, _, rfl, t_of h4, rfl, _, _, rfl, _, _, rfl, _, _, rfl, rfl, ?_⟩
      refine ⟨_, rfl, W.wo, W.dw, _, rfl, h1, rfl, _, rfl, _, rfl, W, ds, K0, wd, M, d, t, rfl, ow, hd, hl d hd, fun a H1 g1 ha hp => ?_⟩
      have hsl : (stillR d wd t).length ≤ 900000 := Nat.le_trans (List.length_filter_le _ _) (hl d hd)
      refine ⟨a, _, rfl, .inl (t_of hp), _, rfl, (by rw [List.length_append, intV_len]; exact Nat.le_of_lt (sm6 (by simp; omega))), fun c hc => ?_⟩
      have s1 := sp.grow g1
      have s2 := s1.keep (o := .tup (intV (noteC d wd t))) hc
      have gn := s1.newk (o := .tup (intV (noteC d wd t))) hc
      have ec : intV (stillR d wd t) ++ [V.int t] = intV (noteC d wd t) := intV_snoc
      rw [ec]
      have o2 := s2.ext _ _ (gn _ _ ow.wk.ob)
      have dp := DPut.k (k := .inr d.name) (v := .ref c) s2.c0 (gdN_len ow.wk.le _)
      rw [putK_gd hn, gset_ref] at dp
      refine ⟨_, rfl, _, rfl, _, _, _, _, _, rfl, o2, T.cl_StormWatch, T.t_StormWatch_counted, rfl, _, rfl, W.cn, _, rfl, dp, ?_⟩
      have s3 := s2.put0 (o' := .dK (gd (stN ds) fun m => .ref (gset g d.name c m)))
      have hc3 := s3.ext _ _ (show upd K0 c (.tup (intV (noteC d wd t))) c = _ from upd_same)
      have hg3 : ∀ x ∈ ds, upd K0 c (.tup (intV (noteC d wd t))) (gset g d.name c x.name) = some (.tup (intV (gset wd.cnt d.name (noteC d wd t) x.name))) := fun x hx => by
        by_cases e : x.name = d.name
        · rw [e, gset_eq, gset_eq]
          exact upd_same
        · unfold gset
          rw [if_neg e, if_neg e]
          exact gn _ _ (hg x hx)
      refine ⟨_, rfl, _, _, rfl, .inr (t_of hc3), _, rfl, _, _, rfl, rfl, decide (((intV (noteC d wd t)).length : Int) ≤ d.most), rfl, ?_⟩
      rw [intV_len]
      by_cases hm : ((noteC d wd t).length : Int) ≤ d.most
      · rw [if_pos hm] at q
        rw [decide_eq_true hm]
        exact iteT (q _ _ gn ⟨ow.wk.up gn, _, hg3, s3⟩)
      · rw [if_neg hm] at q
        rw [decide_eq_false hm]
        refine iteF ?_
        have dq := DPut.k (k := .inr d.name) (v := .int (t + d.hold)) s3.c1 (mdN_len ow.wk.le _)
        rw [putK_md hn] at dq
        have o3 := s3.ext _ _ (gn _ _ ow.wk.ob)
        refine ⟨_, rfl, _, rfl, _, _, rfl, rfl, _, rfl, _, _, _, _, _, rfl, o3, T.cl_StormWatch, T.t_StormWatch_until, rfl, _, rfl, W.un, _, rfl, dq, ?_⟩
        exact q _ _ gn ⟨ow.wk.up gn, _, hg3, s3.swap.put0.swap⟩
    have ef : ds.find? (fun x => decide (x.name = n)) = none := List.find?_eq_none.mpr fun x hx => by
      have : x.name ≠ n := fun e => hn (e ▸ stN_mem hx)
      simp [this]
    unfold noteR at q
    rw [ef] at q
    refine ⟨_, rfl, _, rfl, _, _, _, _, _, rfl, h1, T.cl_StormWatch, T.t_StormWatch_storms, rfl, W.ss, none, rfl, ?_, true, rfl, iteT ?_⟩
    · exact gd_no (f := fun n => V.ref (f n)) hn ▸ DGet.k (k := .inr n) (ow.ext _ _ h2)
    exact q _ _ (Same.refl _) ow
abbrev N_StormWatch_init : List Str := ["self", "storms", "storm"]
theorem sc_StormWatch_init : FnScope N_StormWatch_init ["self", "storms"] (C8.fnScope s_StormWatch_init) := C8.fnScope_by (by decide +kernel)
theorem ok_StormWatch_init {fd : FuncData} (T : Txt K mg) (F : FunD K "__init__" "StormWatch.__init__" (C8.fnArgs s_StormWatch_init) (C8.fnBody s_StormWatch_init) (C8.fnScope s_StormWatch_init) [] [] (He.ma K (aC "StormWatch" K) "__init__") fd) :
    C8.Mak P w K mg base 1 "StormWatch" (aC "StormWatch" K) (sp_StormWatch_init K) [] := by
  refine C8.mak0 (ds := []) T.mk_StormWatch T.g_StormWatch (fun_c8 F) (F.bindsN fun _ _ _ _ _ _ us hl => match us, hl with | [_, _], _ => rfl) .nil sc_StormWatch_init (fun vs H Q E h => ?_) (fun cdv A outer s H vs Q E hr h => ?_)
  · obtain ⟨_, _, _, _, _, _, rfl, _⟩ := h
    rfl
  · have nd := sc_StormWatch_init.nd
    have hu := hu_of hr
    obtain ⟨x, dx, sa, ds, K0, M, rfl, sp, hS, nd2, le, q⟩ := h
    refine ⟨_, (pss_cons (ps_fld (pv 0) (pe_dc (own := [("storm", 2)]) rfl nd (pi_tup (pv 1)) (blkOk_by (own := [("storm", 2)]) (N := N_StormWatch_init) (sc := (C8.fnScope s_StormWatch_init)) (by decide +kernel)) (fun _ _ _ _ _ => (pg_name (i := 2) nd rfl (Or.inl rfl))) (fun _ _ _ _ _ => pts_nil) (fun _ _ _ _ _ => (pe_ix (ix_tup : IxR _ (rIxT K)) (pv 2) pe_int (fun _ _ => rfl))) (fun _ _ _ _ _ => (pe_slice (sl_tup : SlR _ (rSlT K)) (pv 2) (po_some pe_int) po_none))) rfl)
      (pss_cons (ps_fld (pv 0) (pe_dc (own := [("storm", 2)]) rfl nd (pi_tup (pv 1)) (blkOk_by (own := [("storm", 2)]) (N := N_StormWatch_init) (sc := (C8.fnScope s_StormWatch_init)) (by decide +kernel)) (fun _ _ _ _ _ => (pg_name (i := 2) nd rfl (Or.inl rfl))) (fun _ _ _ _ _ => pts_nil) (fun _ _ _ _ _ => (pe_ix (ix_tup : IxR _ (rIxT K)) (pv 2) pe_int (fun _ _ => rfl))) (fun _ _ _ _ _ => (pe_tup pa_nil))) rfl)
      (pss_one (ps_fld (pv 0) (pe_dc (own := [("storm", 2)]) rfl nd (pi_tup (pv 1)) (blkOk_by (own := [("storm", 2)]) (N := N_StormWatch_init) (sc := (C8.fnScope s_StormWatch_init)) (by decide +kernel)) (fun _ _ _ _ _ => (pg_name (i := 2) nd rfl (Or.inl rfl))) (fun _ _ _ _ _ => pts_nil) (fun _ _ _ _ _ => (pe_ix (ix_tup : IxR _ (rIxT K)) (pv 2) pe_int (fun _ _ => rfl))) (fun _ _ _ _ _ => (pe_un un_neg pe_int))) rfl)))), ?_⟩
    obtain ⟨xs, hs, hp⟩ := hS
    have hlen := hp.length
    refine ⟨_, rfl, _, rfl, ⟨_, Same.tup sp.ext hs⟩, fun ss hD => ?_⟩
    refine dc_it (walk_tup (xs := xs)) (fun i H' => ∃ K' f, Same K0 K' ∧ Sep K' H' ((ss, .dK (gd ((stN ds).take i) fun n => .ref (f n))) :: (x, .ins (aC "StormWatch" K) dx []) :: M) ∧ ∀ d ∈ ds.take i, K' (f d.name) = some (.tup [.int d.most, .int d.window, .int d.hold])) ⟨K0, fun _ => 0, Same.refl _, sp.own hD, fun d m => by rw [List.take_zero] at m; cases m⟩ ?_ ?_ ?_
    · rintro i H' _ ⟨K', f, g, s, _⟩
      exact Same.tup (Same.tr g s.ext) hs
    · rintro i v H1 H2 hi ⟨K', f, g, s, hf⟩ ⟨rfl, e2⟩
      obtain ⟨d, hd, t, rfl, ht⟩ := pget hp e2
      have hb := Same.tup (Same.tr g s.ext) ht
      refine ⟨rfl, ⟨_, rfl, _, _, _, _, rfl, rfl, hb, rfl, _, rfl, _, rfl, _, _, rfl, hb, by simp [HT.sIx], fun a ha => ?_⟩⟩
      rw [cut1]
      have s2 := s.keep (o := .tup [.int d.most, .int d.window, .int d.hold]) ha
      have gn := s.newk (o := .tup [.int d.most, .int d.window, .int d.hold]) ha
      have hdn := stN_at hd
      refine ⟨_, .inr d.name, rfl, s2.c0, ?_, _, gset f d.name a, Same.tr g gn, ?_, fun y hy => ?_⟩
      · exact sml (m := 12) (by simp [gd, stN]; omega) (by decide)
      · rw [gd_snocR nd2 hdn]
        exact s2.put0
      · rw [take_snoc hd] at hy
        by_cases e : y.name = d.name
        · rcases List.mem_append.mp hy with hy | hy
          · exact absurd (e ▸ stN_take hy) (nodup_take nd2 hdn)
          · obtain rfl := List.mem_singleton.mp hy
            rw [gset_eq]
            exact upd_same
        · rcases List.mem_append.mp hy with hy | hy
          · unfold gset
            rw [if_neg e]
            exact gn _ _ (hf y hy)
          · obtain rfl := List.mem_singleton.mp hy
            exact absurd rfl e
    rintro H1 ⟨K1, f, g1, s1, hf⟩
    rw [List.take_of_length_le (by omega)] at hf
    rw [List.take_of_length_le (by simp [stN]; omega)] at s1
    refine ⟨_, rfl, _, _, _, _, rfl, s1.c1, T.cl_StormWatch, T.t_StormWatch_storms, (by simp), ?_⟩
    have s1 := s1.swap.put0 (o' := .ins (aC "StormWatch" K) dx [("_storms", .ref ss)])
    refine ⟨_, rfl, _, rfl, ⟨_, Same.tup (Same.tr g1 s1.ext) hs⟩, fun cn hD2 => ?_⟩
    refine dc_it (walk_tup (xs := xs)) (fun i H' => ∃ K' h, Same K1 K' ∧ Sep K' H' ((cn, .dK (gd ((stN ds).take i) fun n => .ref (h n))) :: (x, .ins (aC "StormWatch" K) dx [("_storms", .ref ss)]) :: (ss, .dK (gd (stN ds) fun n => .ref (f n))) :: M) ∧ ∀ d ∈ ds.take i, K' (h d.name) = some (.tup [])) ⟨K1, fun _ => 0, Same.refl _, s1.own hD2, fun d m => by rw [List.take_zero] at m; cases m⟩ ?_ ?_ ?_
    · rintro i H' _ ⟨K', h, g, s, _⟩
      exact Same.tup (Same.tr g1 (Same.tr g s.ext)) hs
    · rintro i v H1 H2 hi ⟨K', h, g, s, hh⟩ ⟨rfl, e2⟩
      obtain ⟨d, hd, t, rfl, ht⟩ := pget hp e2
      have hb := Same.tup (Same.tr g1 (Same.tr g s.ext)) ht
      refine ⟨rfl, ⟨_, rfl, _, _, _, _, rfl, rfl, hb, rfl, Nat.zero_le _, fun a ha => ?_⟩⟩
      have s2 := s.keep (o := .tup []) ha
      have gn := s.newk (o := .tup []) ha
      have hdn := stN_at hd
      refine ⟨_, .inr d.name, rfl, s2.c0, ?_, _, gset h d.name a, Same.tr g gn, ?_, fun y hy => ?_⟩
      · exact sml (m := 12) (by simp [gd, stN]; omega) (by decide)
      · rw [gd_snocR nd2 hdn]
        exact s2.put0
      · rw [take_snoc hd] at hy
        by_cases e : y.name = d.name
        · rcases List.mem_append.mp hy with hy | hy
          · exact absurd (e ▸ stN_take hy) (nodup_take nd2 hdn)
          · obtain rfl := List.mem_singleton.mp hy
            rw [gset_eq]
            exact upd_same
        · rcases List.mem_append.mp hy with hy | hy
          · unfold gset
            rw [if_neg e]
            exact gn _ _ (hh y hy)
          · obtain rfl := List.mem_singleton.mp hy
            exact absurd rfl e
    rintro H2 ⟨K2, h, g2, s2, hh⟩
    rw [List.take_of_length_le (by omega)] at hh
    rw [List.take_of_length_le (by simp [stN]; omega)] at s2
    refine ⟨_, rfl, _, _, _, _, rfl, s2.c1, T.cl_StormWatch, T.t_StormWatch_counted, (by simp), ?_⟩
    have s2 := s2.swap.put0 (o' := .ins (aC "StormWatch" K) dx [("_storms", .ref ss), ("_counted", .ref cn)])
    refine ⟨_, rfl, _, rfl, ⟨_, Same.tup (Same.tr g1 (Same.tr g2 s2.ext)) hs⟩, fun un hD3 => ?_⟩
    refine dc_it (walk_tup (xs := xs)) (fun i H' => Sep K2 H' ((un, .dK (md ((stN ds).take i) fun _ => -1)) :: (x, .ins (aC "StormWatch" K) dx [("_storms", .ref ss), ("_counted", .ref cn)]) :: (cn, .dK (gd (stN ds) fun n => .ref (h n))) :: (ss, .dK (gd (stN ds) fun n => .ref (f n))) :: M)) (s2.own hD3) ?_ ?_ ?_
    · rintro i H' _ s
      exact Same.tup (Same.tr g1 (Same.tr g2 s.ext)) hs
    · rintro i v H1 H2 hi s ⟨rfl, e2⟩
      obtain ⟨d, hd, t, rfl, ht⟩ := pget hp e2
      have hb := Same.tup (Same.tr g1 (Same.tr g2 s.ext)) ht
      have hdn := stN_at hd
      refine ⟨rfl, ⟨_, rfl, _, _, _, _, rfl, rfl, hb, rfl, _, rfl, _, .inr d.name, rfl, s.c0, ?_, ?_⟩⟩
      · exact sml (m := 12) (by simp [md, stN]; omega) (by decide)
      · rw [md_snoc (f := fun _ => -1) nd2 hdn]
        exact s.put0
    rintro H3 s3
    rw [List.take_of_length_le (by simp [stN]; omega)] at s3
    refine ⟨_, rfl, _, _, _, _, rfl, s3.c1, T.cl_StormWatch, T.t_StormWatch_until, (by simp), ?_⟩
    have s3 := s3.swap.put0 (o' := .ins (aC "StormWatch" K) dx [("_storms", .ref ss), ("_counted", .ref cn), ("_until", .ref un)])
    have u1 := s3.freeze
    have n1 := s3.new0
    have u2 := u1.rot3.freeze
    have n2 := u1.rot3.new0
    refine q _ _ ⟨x, dx, ss, cn, un⟩ (Same.tr g1 (Same.tr g2 (Same.tr n1 n2))) rfl ⟨⟨n2 _ _ upd_same, ⟨f, upd_same, fun d m => n2 _ _ (n1 _ _ (g2 _ _ (hf d m)))⟩, nd2, le⟩, h, fun d m => n2 _ _ (n1 _ _ (hh d m)), u2.swap⟩
end
end Cb

namespace Cb
open PySem PySem.Spec PyProof.Rows L2

theorem flat_strs (ws : List Str) : (ws.map V.str).all flatV = true := by simp [flatV]
def lk (ls : List LineD) : List (Key × V) := ls.map fun l => (.inr l.name, .str (kindS l.lvl))
theorem lk_at {l : LineD} : ∀ {ls : List LineD}, (ls.map (·.name)).Nodup → l ∈ ls → valV (lk ls) (.inr l.name) = some (.str (kindS l.lvl))
  | m :: ws, nd, h => by
    have nd2 := List.nodup_cons.mp nd
    rcases List.mem_cons.mp h with e | h
    · subst e
      simp [lk, valV]
    · have ne : m.name ≠ l.name := fun q => nd2.1 (by show m.name ∈ _; rw [q]; exact List.mem_map_of_mem h)
      have z := lk_at nd2.2 h
      unfold lk valV at z ⊢
      rw [List.map_cons, List.find?_cons_of_neg (by simp [ne])]
      exact z
theorem lk_snoc {ws : List LineD} (nd : (ws.map (·.name)).Nodup) {i : Nat} {l : LineD} (h : ws[i]? = some l) : putK (lk (ws.take i)) (.inr l.name) (.str (kindS l.lvl)) = lk (ws.take (i + 1)) := by
  rw [take_snoc h, putK_new]
  · simp [lk]
  · intro e m q
    obtain ⟨k, hk, rfl⟩ := List.mem_map.mp m
    injection q with q
    have := nodup_take nd (i := i) (x := l.name) (by simp [h])
    rw [← List.map_take] at this
    exact this (q ▸ List.mem_map_of_mem hk)
def sp_is_line (K : PySem.W.Frag) : Sp := fun vs H Q _ => ∃ (v : V) (l : LineD), vs = [v] ∧ LineAt K H v l ∧ LineOk l ∧ Q (.bl true) H
def sp_is_work (K : PySem.W.Frag) : Sp := fun vs H Q _ => ∃ (v : V) (l : WorkD), vs = [v] ∧ WorkAt K H v l ∧ WorkOk l ∧ Q (.bl true) H
@[reducible] def sp_is_step (K : PySem.W.Frag) : Sp := fun vs H Q _ => ∃ (v : V) (kd p : Addr) (st : SD) (ls : List LineD) (ws : List WorkD), vs = [v, .ref kd, .ref p, .int 7] ∧ StepAt K H v st ∧ H kd = some (.dK (lk ls)) ∧ (ls.map (·.name)).Nodup ∧ SqL K H p ((ws.map (·.name)).map V.str) ∧ StepOk ls ws st ∧ Q (.bl true) H

section
variable {P : Program} {w : World} {K : PySem.W.Frag} {mg : Str → Option Value} {base : Heap}

abbrev N_is_letters : List Str := ["word"]
theorem sc_is_letters : FnScope N_is_letters ["word"] (C8.fnScope s_is_letters) := C8.fnScope_by (by decide +kernel)
theorem ok_is_letters {fd : FuncData} (T : Txt K mg) (F : FunD K "is_letters" "is_letters" (C8.fnArgs s_is_letters) (C8.fnBody s_is_letters) (C8.fnScope s_is_letters) [] [] (He.ga K "is_letters") fd) :
    C8.Cal P w K mg base 1 "is_letters" sp_is_letters [] := by
  refine C8.cal0 (ds := []) ⟨fun_c8 F, T.f_is_letters, F.kp⟩ (F.bindsN fun _ _ _ _ _ _ us hl => match us, hl with | [_], _ => rfl) .nil sc_is_letters (fun vs H Q E h => ?_) (fun cdv A outer s H vs Q E hr h => ?_)
  · obtain ⟨_, rfl, _⟩ := h
    rfl
  · have nd := sc_is_letters.nd
    have hu := hu_of hr
    obtain ⟨x, rfl, q⟩ := h
    refine ⟨_, (pss_one (ps_ret (pe_and (pe_bm0 PySem.F.plainAttrs_str PySem.F.slot_str_isascii PySem.F.type_str_isascii mt_isascii (pv 0)) (pe_and (pe_bm0 PySem.F.plainAttrs_str PySem.F.slot_str_isalpha PySem.F.type_str_isalpha mt_isalpha (pv 0)) (pe_one (pe_bm0 PySem.F.plainAttrs_str PySem.F.slot_str_islower PySem.F.type_str_islower mt_islower (pv 0))))))), ?_⟩
    refine ⟨_, rfl, rfl, _, rfl, rfl, True.intro, _, rfl, ?_⟩
    unfold letters at q
    cases e1 : Txt.isascii x with
    | false =>
      rw [e1, Bool.false_and] at q
      exact iteF q
    | true =>
      rw [e1, Bool.true_and] at q
      refine iteT ⟨_, rfl, rfl, _, rfl, rfl, True.intro, _, rfl, ?_⟩
      cases e2 : Txt.isalpha x with
      | false =>
        rw [e2, Bool.false_and] at q
        exact iteF q
      | true =>
        rw [e2, Bool.true_and] at q
        exact iteT ⟨_, rfl, rfl, _, rfl, rfl, True.intro, q⟩
abbrev N_is_name : List Str := ["value"]
theorem sc_is_name : FnScope N_is_name ["value"] (C8.fnScope s_is_name) := C8.fnScope_by (by decide +kernel)
theorem ok_is_name {fd : FuncData} (T : Txt K mg) (F : FunD K "is_name" "is_name" (C8.fnArgs s_is_name) (C8.fnBody s_is_name) (C8.fnScope s_is_name) [] [] (He.ga K "is_name") fd) (c_is_letters : C8.Cal P w K mg base 1 "is_letters" sp_is_letters []) :
    C8.Cal P w K mg base 2 "is_name" sp_is_name [] := by
  refine C8.cal0 (ds := []) ⟨fun_c8 F, T.f_is_name, F.kp⟩ (F.bindsN fun _ _ _ _ _ _ us hl => match us, hl with | [_], _ => rfl) .nil sc_is_name (fun vs H Q E h => ?_) (fun cdv A outer s H vs Q E hr h => ?_)
  · obtain ⟨_, rfl, _⟩ := h
    rfl
  · have nd := sc_is_name.nd
    have hu := hu_of hr
    obtain ⟨x, rfl, hz, q⟩ := h
    refine ⟨_, (pss_one (ps_ret (pe_and (pe_callB call_is (by rfl) T.n_isinstance (by decide +kernel) (pa_cons (pv 0) (pa_cons (pe_bltn (v := .ty "str") rfl T.n_str (by decide +kernel) rfl) pa_nil))) (pe_and (pe_cmpR op_le (pe_callB call_len_str (by rfl) T.n_len (by decide +kernel) (pa_cons (pv 0) pa_nil)) (C8.pe_gc rfl T.k_MAX_LETTERS) (nomark _)) (pe_one (C8.pe_c c_is_letters hr (by decide) rfl (pa_cons (pv 0) pa_nil))))))), ?_⟩
    refine ⟨_, rfl, _, _, _, _, rfl, ty_str, kb3, true, rfl, iteT ?_⟩
    refine ⟨_, rfl, _, rfl, hz, _, _, rfl, rfl, _, rfl, ?_⟩
    cases e1 : decide ((x.length : Int) ≤ 8) with
    | false =>
      rw [e1, Bool.false_and] at q
      exact iteF q
    | true =>
      rw [e1, Bool.true_and] at q
      exact iteT ⟨_, rfl, _, rfl, q⟩
abbrev N_is_line : List Str := ["line", "name", "kind", "rank", "handler"]
theorem sc_is_line : FnScope N_is_line ["line"] (C8.fnScope s_is_line) := C8.fnScope_by (by decide +kernel)
theorem ok_is_line {fd : FuncData} (T : Txt K mg) (F : FunD K "is_line" "is_line" (C8.fnArgs s_is_line) (C8.fnBody s_is_line) (C8.fnScope s_is_line) [] [] (He.ga K "is_line") fd) (c_is_integer : C8.Cal P w K mg base 1 "is_integer" sp_is_integer []) (c_is_name : C8.Cal P w K mg base 2 "is_name" sp_is_name []) :
    C8.Cal P w K mg base 3 "is_line" (sp_is_line K) [] := by
  refine C8.cal0 (ds := []) ⟨fun_c8 F, T.f_is_line, F.kp⟩ (F.bindsN fun _ _ _ _ _ _ us hl => match us, hl with | [_], _ => rfl) .nil sc_is_line (fun vs H Q E h => ?_) (fun cdv A outer s H vs Q E hr h => ?_)
  · obtain ⟨_, _, rfl, _⟩ := h
    rfl
  · have nd := sc_is_line.nd
    have hu := hu_of hr
    obtain ⟨v, l, rfl, ⟨a, g, hs, rfl, hl, hh, hp⟩, ok, q⟩ := h
    refine ⟨_, (pss_cons (ps_if (PW.pt (pw_or (pt_not (pt_val (pe_callB call_is (by rfl) T.n_isinstance (by decide +kernel) (pa_cons (pv 0) (pa_cons (pe_bltn (v := .ty "tuple") rfl T.n_tuple (by decide +kernel) rfl) pa_nil))))) (pw_or1 (pt_cmpR op_ne (pe_callB call_len_seq (by rfl) T.n_len (by decide +kernel) (pa_cons (pv 0) pa_nil)) pe_int (nomark _))))) (pss_one (ps_ret pe_bl)) pss_nil)
      (pss_cons (ps_asg (pv 0) (pg_tup rfl (pgs_cons (pg_name (i := 1) nd rfl (Or.inl rfl)) (pgs_cons (pg_name (i := 2) nd rfl (Or.inl rfl)) (pgs_cons (pg_name (i := 3) nd rfl (Or.inl rfl)) (pgs_cons (pg_name (i := 4) nd rfl (Or.inl rfl)) pgs_nil))))))
      (pss_cons (ps_if (PW.pt (pw_or (pt_not (pt_val (C8.pe_c c_is_name hr (by decide) rfl (pa_cons (pv 1) pa_nil)))) (pw_or (pt_cmpR op_notIn_seq (pv 2) (C8.pe_gc rfl T.k_KINDS) (by rfl)) (pw_or1 (pt_not (pt_val (C8.pe_c c_is_integer hr (by decide) rfl (pa_cons (pv 3) (pa_cons pe_int (pa_cons (C8.pe_gc rfl T.k_MAX_RANK) pa_nil)))))))))) (pss_one (ps_ret pe_bl)) pss_nil)
      (pss_one (ps_ret (pe_and (pe_callB call_is (by rfl) T.n_isinstance (by decide +kernel) (pa_cons (pv 4) (pa_cons (pe_bltn (v := .ty "tuple") rfl T.n_tuple (by decide +kernel) rfl) pa_nil))) (pe_one (pe_chain op_le op_le pe_int (pe_callB call_len_seq (by rfl) T.n_len (by decide +kernel) (pa_cons (pv 4) pa_nil)) (C8.pe_gc rfl T.k_MAX_STEPS))))))))), ?_⟩
    refine ⟨_, rfl, _, _, _, _, rfl, ty_tup hl, kb4, true, rfl, iteF ?_⟩
    refine ⟨_, rfl, _, _, rfl, .inr hl, rfl, false, rfl, iteF ?_⟩
    refine ⟨_, rfl, _, _, rfl, hl, rfl, _, _, rfl, _, _, rfl, _, _, rfl, _, _, rfl, rfl, ?_⟩
    refine ⟨_, rfl, l.name, rfl, small8 ok.nm.1, true, congrArg V.bl (andT (decide_eq_true (by have := ok.nm.1; omega)) ok.nm.2), iteF ?_⟩
    refine ⟨_, rfl, _, _, rfl, .inr (T.v_KINDS _), rfl, rfl, false, ?_, iteF ?_⟩
    · cases l.lvl <;> rfl
    refine ⟨_, rfl, _, _, _, rfl, true, congrArg V.bl (andT (decide_eq_true ok.r1) (decide_eq_true ok.r9)), iteF ?_⟩
    exact ⟨_, rfl, _, _, _, _, rfl, ty_tup hh, kb4, true, rfl, iteT ⟨_, rfl, _, _, rfl, .inr hh, _, _, rfl, rfl, true, congrArg V.bl (decide_eq_true (by have := ok.s1; have := hp.length; omega)), iteT ⟨_, _, rfl, rfl, (congrArg (fun b => Q (.bl b) H) (decide_eq_true (by have := ok.s8; have := hp.length; omega))).mpr q⟩⟩⟩
abbrev N_is_work : List Str := ["work", "name", "rank", "ticks"]
theorem sc_is_work : FnScope N_is_work ["work"] (C8.fnScope s_is_work) := C8.fnScope_by (by decide +kernel)
theorem ok_is_work {fd : FuncData} (T : Txt K mg) (F : FunD K "is_work" "is_work" (C8.fnArgs s_is_work) (C8.fnBody s_is_work) (C8.fnScope s_is_work) [] [] (He.ga K "is_work") fd) (c_is_integer : C8.Cal P w K mg base 1 "is_integer" sp_is_integer []) (c_is_name : C8.Cal P w K mg base 2 "is_name" sp_is_name []) :
    C8.Cal P w K mg base 3 "is_work" (sp_is_work K) [] := by
  refine C8.cal0 (ds := []) ⟨fun_c8 F, T.f_is_work, F.kp⟩ (F.bindsN fun _ _ _ _ _ _ us hl => match us, hl with | [_], _ => rfl) .nil sc_is_work (fun vs H Q E h => ?_) (fun cdv A outer s H vs Q E hr h => ?_)
  · obtain ⟨_, _, rfl, _⟩ := h
    rfl
  · have nd := sc_is_work.nd
    have hu := hu_of hr
    obtain ⟨v, l, rfl, ⟨a, rfl, hl⟩, ok, q⟩ := h
    refine ⟨_, (pss_cons (ps_if (PW.pt (pw_or (pt_not (pt_val (pe_callB call_is (by rfl) T.n_isinstance (by decide +kernel) (pa_cons (pv 0) (pa_cons (pe_bltn (v := .ty "tuple") rfl T.n_tuple (by decide +kernel) rfl) pa_nil))))) (pw_or1 (pt_cmpR op_ne (pe_callB call_len_seq (by rfl) T.n_len (by decide +kernel) (pa_cons (pv 0) pa_nil)) pe_int (nomark _))))) (pss_one (ps_ret pe_bl)) pss_nil)
      (pss_cons (ps_asg (pv 0) (pg_tup rfl (pgs_cons (pg_name (i := 1) nd rfl (Or.inl rfl)) (pgs_cons (pg_name (i := 2) nd rfl (Or.inl rfl)) (pgs_cons (pg_name (i := 3) nd rfl (Or.inl rfl)) pgs_nil)))))
      (pss_one (ps_ret (pe_and (C8.pe_c c_is_name hr (by decide) rfl (pa_cons (pv 1) pa_nil)) (pe_and (C8.pe_c c_is_integer hr (by decide) rfl (pa_cons (pv 2) (pa_cons pe_int (pa_cons (C8.pe_gc rfl T.k_MAX_RANK) pa_nil)))) (pe_one (C8.pe_c c_is_integer hr (by decide) rfl (pa_cons (pv 3) (pa_cons pe_int (pa_cons (C8.pe_gc rfl T.k_MAX_TICKS) pa_nil))))))))))), ?_⟩
    refine ⟨_, rfl, _, _, _, _, rfl, ty_tup hl, kb4, true, rfl, iteF ?_⟩
    refine ⟨_, rfl, _, _, rfl, .inr hl, rfl, false, rfl, iteF ?_⟩
    refine ⟨_, rfl, _, _, rfl, hl, rfl, _, _, rfl, _, _, rfl, _, _, rfl, rfl, ?_⟩
    refine ⟨_, rfl, l.name, rfl, small8 ok.nm.1, true, congrArg V.bl (andT (decide_eq_true (by have := ok.nm.1; omega)) ok.nm.2), iteT ?_⟩
    refine ⟨_, rfl, _, _, _, rfl, true, congrArg V.bl (andT (decide_eq_true ok.r1) (decide_eq_true ok.r9)), iteT ?_⟩
    exact ⟨_, rfl, _, _, _, rfl, (congrArg (fun b => Q (.bl b) H) (andT (decide_eq_true ok.t1) (decide_eq_true ok.t99))).mpr q⟩
abbrev N_is_step : List Str := ["step", "kinds", "works", "max_flag", "word", "what", "asked"]
theorem sc_is_step : FnScope N_is_step ["step", "kinds", "works", "max_flag"] (C8.fnScope s_is_step) := C8.fnScope_by (by decide +kernel)
theorem ok_is_step {fd : FuncData} (T : Txt K mg) (F : FunD K "is_step" "is_step" (C8.fnArgs s_is_step) (C8.fnBody s_is_step) (C8.fnScope s_is_step) [] [] (He.ga K "is_step") fd) (c_is_integer : C8.Cal P w K mg base 1 "is_integer" sp_is_integer []) {es : Array DictEntry} {nn : Nat} (D : KDict K w (He.ga K "ARGUMENTS") es nn) :
    C8.Cal P w K mg base 3 "is_step" (sp_is_step K) [] := by
  refine C8.cal0 (ds := []) ⟨fun_c8 F, T.f_is_step, F.kp⟩ (F.bindsN fun _ _ _ _ _ _ us hl => match us, hl with | [_, _, _, _], _ => rfl) .nil sc_is_step (fun vs H Q E h => ?_) (fun cdv A outer s H vs Q E hr h => ?_)
  · obtain ⟨_, _, _, _, _, _, rfl, _⟩ := h
    rfl
  · have nd := sc_is_step.nd
    have hu := hu_of hr
    obtain ⟨v, kd, p, st, ls, ws, rfl, ⟨a, rfl, hl⟩, hk, ndl, hw, ok, q⟩ := h
    refine ⟨_, (pss_cons (ps_if (PW.pt (pw_or (pt_not (pt_val (pe_callB call_is (by rfl) T.n_isinstance (by decide +kernel) (pa_cons (pv 0) (pa_cons (pe_bltn (v := .ty "tuple") rfl T.n_tuple (by decide +kernel) rfl) pa_nil))))) (pw_or1 (pt_cmpR op_ne (pe_callB call_len_seq (by rfl) T.n_len (by decide +kernel) (pa_cons (pv 0) pa_nil)) pe_int (nomark _))))) (pss_one (ps_ret pe_bl)) pss_nil)
      (pss_cons (ps_asg (pv 0) (pg_tup rfl (pgs_cons (pg_name (i := 4) nd rfl (Or.inl rfl)) (pgs_cons (pg_name (i := 5) nd rfl (Or.inl rfl)) pgs_nil))))
      (pss_cons (ps_if (PW.pt (pw_or (pt_not (pt_val (pe_callB call_is (by rfl) T.n_isinstance (by decide +kernel) (pa_cons (pv 4) (pa_cons (pe_bltn (v := .ty "str") rfl T.n_str (by decide +kernel) rfl) pa_nil))))) (pw_or1 (pt_cmpR (op_notIn_kd D) (pv 4) (C8.pe_gc rfl T.k_ARGUMENTS) (by rfl))))) (pss_one (ps_ret pe_bl)) pss_nil)
      (pss_cons (ps_set (i := 6) nd rfl (Or.inl rfl) (pe_ix ix_kdict (C8.pe_gc rfl T.k_ARGUMENTS) (pv 4) (fun _ _ => rfl)))
      (pss_cons (ps_if (pt_cmpR op_eq (pv 6) pe_str (nomark _)) (pss_one (ps_ret (C8.pe_c c_is_integer hr (by decide) rfl (pa_cons (pv 5) (pa_cons pe_int (pa_cons (C8.pe_gc rfl T.k_MAX_TICKS) pa_nil)))))) pss_nil)
      (pss_cons (ps_if (pt_cmpR op_eq (pv 6) pe_str (nomark _)) (pss_one (ps_ret (C8.pe_c c_is_integer hr (by decide) rfl (pa_cons (pv 5) (pa_cons pe_int (pa_cons (pv 3) pa_nil)))))) pss_nil)
      (pss_cons (ps_if (pt_cmpR op_eq (pv 6) pe_str (nomark _)) (pss_one (ps_ret (C8.pe_c c_is_integer hr (by decide) rfl (pa_cons (pv 5) (pa_cons pe_int (pa_cons (C8.pe_gc rfl T.k_MAX_RANK) pa_nil)))))) pss_nil)
      (pss_cons (ps_if (pt_not (pt_val (pe_callB call_is (by rfl) T.n_isinstance (by decide +kernel) (pa_cons (pv 5) (pa_cons (pe_bltn (v := .ty "str") rfl T.n_str (by decide +kernel) rfl) pa_nil))))) (pss_one (ps_ret pe_bl)) pss_nil)
      (pss_cons (ps_if (pt_cmpR op_eq (pv 6) pe_str (nomark _)) (pss_one (ps_ret (pe_cmpR op_in_seq (pv 5) (pv 2) (by rfl)))) pss_nil)
      (pss_one (ps_ret (pe_and (pe_cmp (pc_din hu (pv 5) (pv 1)) rfl) (pe_one (pe_or (pe_cmpR op_eq (pv 6) pe_str (nomark _)) (pe_one (pe_cmpR op_eq (pe_dget hu (pv 1) (pv 5) (fun _ _ => rfl)) (pv 6) (nomark _))))))))))))))))), ?_⟩
    refine ⟨_, rfl, _, _, _, _, rfl, ty_tup hl, kb4, true, rfl, iteF ?_⟩
    refine ⟨_, rfl, _, _, rfl, .inr hl, rfl, false, rfl, iteF ?_⟩
    refine ⟨_, rfl, _, _, rfl, hl, rfl, _, _, rfl, _, _, rfl, rfl, ?_⟩
    refine ⟨_, rfl, _, _, _, _, rfl, ty_str, kb3, true, rfl, iteF ?_⟩
    cases st with
    | run n =>
      obtain ⟨u, hu1, hu2⟩ := He.valsB_ok T.v_ARGUMENTS (q := ("run", .str "ticks")) (List.mem_of_getElem? (i := 0) rfl)
      refine ⟨_, rfl, _, _, rfl, rfl, hu1, false, rfl, iteF ?_⟩
      refine ⟨_, rfl, _, _, _, rfl, rfl, ⟨_, _, u, D.at_, D.lit, hu1, hu2⟩, ?_⟩
      refine ⟨_, rfl, rfl, true, rfl, iteT ?_⟩
      exact ⟨_, rfl, _, _, _, rfl, (congrArg (fun b => Q (.bl b) H) (andT (decide_eq_true ok.1) (decide_eq_true ok.2))).mpr q⟩
    | ring x =>
      obtain ⟨u, hu1, hu2⟩ := He.valsB_ok T.v_ARGUMENTS (q := ("ring", .str "line")) (List.mem_of_getElem? (i := 1) rfl)
      refine ⟨_, rfl, _, _, rfl, rfl, hu1, false, rfl, iteF ?_⟩
      refine ⟨_, rfl, _, _, _, rfl, rfl, ⟨_, _, u, D.at_, D.lit, hu1, hu2⟩, ?_⟩
      refine ⟨_, rfl, rfl, false, rfl, iteF ?_⟩
      refine ⟨_, rfl, rfl, false, rfl, iteF ?_⟩
      refine ⟨_, rfl, rfl, false, rfl, iteF ?_⟩
      refine ⟨_, rfl, _, _, _, _, rfl, ty_str, kb3, true, rfl, iteF ?_⟩
      refine ⟨_, rfl, rfl, false, rfl, iteF ?_⟩
      obtain ⟨x, hx, rfl⟩ := ok
      refine ⟨_, rfl, _, rfl, _, valV (lk ls) (.inr x.name), rfl, DGet.k (k := .inr x.name) hk, ?_⟩
      rw [lk_at ndl hx]
      exact ⟨true, rfl, iteT ⟨_, rfl, rfl, true, rfl, iteT q⟩⟩
    | quiet x =>
      obtain ⟨u, hu1, hu2⟩ := He.valsB_ok T.v_ARGUMENTS (q := ("quiet", .str "level")) (List.mem_of_getElem? (i := 2) rfl)
      refine ⟨_, rfl, _, _, rfl, rfl, hu1, false, rfl, iteF ?_⟩
      refine ⟨_, rfl, _, _, _, rfl, rfl, ⟨_, _, u, D.at_, D.lit, hu1, hu2⟩, ?_⟩
      refine ⟨_, rfl, rfl, false, rfl, iteF ?_⟩
      refine ⟨_, rfl, rfl, false, rfl, iteF ?_⟩
      refine ⟨_, rfl, rfl, false, rfl, iteF ?_⟩
      refine ⟨_, rfl, _, _, _, _, rfl, ty_str, kb3, true, rfl, iteF ?_⟩
      refine ⟨_, rfl, rfl, false, rfl, iteF ?_⟩
      obtain ⟨x, hx, rfl, hv⟩ := ok
      refine ⟨_, rfl, _, rfl, _, valV (lk ls) (.inr x.name), rfl, DGet.k (k := .inr x.name) hk, ?_⟩
      rw [lk_at ndl hx]
      refine ⟨true, rfl, iteT ⟨_, rfl, rfl, false, rfl, iteF ?_⟩⟩
      have hk2 := DGet.k (k := .inr x.name) hk
      rw [lk_at ndl hx, hv] at hk2
      exact ⟨_, rfl, _, rfl, _, _, rfl, hk2, _, rfl, rfl, q⟩
    | mask x =>
      obtain ⟨u, hu1, hu2⟩ := He.valsB_ok T.v_ARGUMENTS (q := ("mask", .str "line")) (List.mem_of_getElem? (i := 3) rfl)
      refine ⟨_, rfl, _, _, rfl, rfl, hu1, false, rfl, iteF ?_⟩
      refine ⟨_, rfl, _, _, _, rfl, rfl, ⟨_, _, u, D.at_, D.lit, hu1, hu2⟩, ?_⟩
      refine ⟨_, rfl, rfl, false, rfl, iteF ?_⟩
      refine ⟨_, rfl, rfl, false, rfl, iteF ?_⟩
      refine ⟨_, rfl, rfl, false, rfl, iteF ?_⟩
      refine ⟨_, rfl, _, _, _, _, rfl, ty_str, kb3, true, rfl, iteF ?_⟩
      refine ⟨_, rfl, rfl, false, rfl, iteF ?_⟩
      obtain ⟨x, hx, rfl⟩ := ok
      refine ⟨_, rfl, _, rfl, _, valV (lk ls) (.inr x.name), rfl, DGet.k (k := .inr x.name) hk, ?_⟩
      rw [lk_at ndl hx]
      exact ⟨true, rfl, iteT ⟨_, rfl, rfl, true, rfl, iteT q⟩⟩
    | unmask x =>
      obtain ⟨u, hu1, hu2⟩ := He.valsB_ok T.v_ARGUMENTS (q := ("unmask", .str "line")) (List.mem_of_getElem? (i := 4) rfl)
      refine ⟨_, rfl, _, _, rfl, rfl, hu1, false, rfl, iteF ?_⟩
      refine ⟨_, rfl, _, _, _, rfl, rfl, ⟨_, _, u, D.at_, D.lit, hu1, hu2⟩, ?_⟩
      refine ⟨_, rfl, rfl, false, rfl, iteF ?_⟩
      refine ⟨_, rfl, rfl, false, rfl, iteF ?_⟩
      refine ⟨_, rfl, rfl, false, rfl, iteF ?_⟩
      refine ⟨_, rfl, _, _, _, _, rfl, ty_str, kb3, true, rfl, iteF ?_⟩
      refine ⟨_, rfl, rfl, false, rfl, iteF ?_⟩
      obtain ⟨x, hx, rfl⟩ := ok
      refine ⟨_, rfl, _, rfl, _, valV (lk ls) (.inr x.name), rfl, DGet.k (k := .inr x.name) hk, ?_⟩
      rw [lk_at ndl hx]
      exact ⟨true, rfl, iteT ⟨_, rfl, rfl, true, rfl, iteT q⟩⟩
    | setf f =>
      obtain ⟨u, hu1, hu2⟩ := He.valsB_ok T.v_ARGUMENTS (q := ("set", .str "flag")) (List.mem_of_getElem? (i := 5) rfl)
      refine ⟨_, rfl, _, _, rfl, rfl, hu1, false, rfl, iteF ?_⟩
      refine ⟨_, rfl, _, _, _, rfl, rfl, ⟨_, _, u, D.at_, D.lit, hu1, hu2⟩, ?_⟩
      refine ⟨_, rfl, rfl, false, rfl, iteF ?_⟩
      refine ⟨_, rfl, rfl, true, rfl, iteT ?_⟩
      exact ⟨_, rfl, _, rfl, _, _, _, rfl, (congrArg (fun b => Q (.bl b) H) (andT (decide_eq_true (by omega)) (decide_eq_true (by have := ok; simp only [StepOk] at this; omega)))).mpr q⟩
    | clearf f =>
      obtain ⟨u, hu1, hu2⟩ := He.valsB_ok T.v_ARGUMENTS (q := ("clear", .str "flag")) (List.mem_of_getElem? (i := 6) rfl)
      refine ⟨_, rfl, _, _, rfl, rfl, hu1, false, rfl, iteF ?_⟩
      refine ⟨_, rfl, _, _, _, rfl, rfl, ⟨_, _, u, D.at_, D.lit, hu1, hu2⟩, ?_⟩
      refine ⟨_, rfl, rfl, false, rfl, iteF ?_⟩
      refine ⟨_, rfl, rfl, true, rfl, iteT ?_⟩
      exact ⟨_, rfl, _, rfl, _, _, _, rfl, (congrArg (fun b => Q (.bl b) H) (andT (decide_eq_true (by omega)) (decide_eq_true (by have := ok; simp only [StepOk] at this; omega)))).mpr q⟩
    | await f =>
      obtain ⟨u, hu1, hu2⟩ := He.valsB_ok T.v_ARGUMENTS (q := ("await", .str "flag")) (List.mem_of_getElem? (i := 7) rfl)
      refine ⟨_, rfl, _, _, rfl, rfl, hu1, false, rfl, iteF ?_⟩
      refine ⟨_, rfl, _, _, _, rfl, rfl, ⟨_, _, u, D.at_, D.lit, hu1, hu2⟩, ?_⟩
      refine ⟨_, rfl, rfl, false, rfl, iteF ?_⟩
      refine ⟨_, rfl, rfl, true, rfl, iteT ?_⟩
      exact ⟨_, rfl, _, rfl, _, _, _, rfl, (congrArg (fun b => Q (.bl b) H) (andT (decide_eq_true (by omega)) (decide_eq_true (by have := ok; simp only [StepOk] at this; omega)))).mpr q⟩
    | bar n =>
      obtain ⟨u, hu1, hu2⟩ := He.valsB_ok T.v_ARGUMENTS (q := ("bar", .str "bar")) (List.mem_of_getElem? (i := 8) rfl)
      refine ⟨_, rfl, _, _, rfl, rfl, hu1, false, rfl, iteF ?_⟩
      refine ⟨_, rfl, _, _, _, rfl, rfl, ⟨_, _, u, D.at_, D.lit, hu1, hu2⟩, ?_⟩
      refine ⟨_, rfl, rfl, false, rfl, iteF ?_⟩
      refine ⟨_, rfl, rfl, false, rfl, iteF ?_⟩
      refine ⟨_, rfl, rfl, true, rfl, iteT ?_⟩
      exact ⟨_, rfl, _, _, _, rfl, (congrArg (fun b => Q (.bl b) H) (andT (decide_eq_true ok.1) (decide_eq_true ok.2))).mpr q⟩
    | later x =>
      obtain ⟨u, hu1, hu2⟩ := He.valsB_ok T.v_ARGUMENTS (q := ("later", .str "work")) (List.mem_of_getElem? (i := 9) rfl)
      refine ⟨_, rfl, _, _, rfl, rfl, hu1, false, rfl, iteF ?_⟩
      refine ⟨_, rfl, _, _, _, rfl, rfl, ⟨_, _, u, D.at_, D.lit, hu1, hu2⟩, ?_⟩
      refine ⟨_, rfl, rfl, false, rfl, iteF ?_⟩
      refine ⟨_, rfl, rfl, false, rfl, iteF ?_⟩
      refine ⟨_, rfl, rfl, false, rfl, iteF ?_⟩
      refine ⟨_, rfl, _, _, _, _, rfl, ty_str, kb3, true, rfl, iteF ?_⟩
      refine ⟨_, rfl, rfl, true, rfl, iteT ?_⟩
      obtain ⟨x, hx, rfl⟩ := ok
      exact ⟨_, rfl, _, rfl, _, _, rfl, .inl hw, rfl, flat_strs (ws.map (·.name)), (congrArg (fun b => Q (.bl b) H) (inV_strs (List.mem_map_of_mem hx))).mpr q⟩
end
end Cb

namespace Cb
open PySem PySem.Spec PyProof.Rows L2

def NmAt (K : PySem.W.Frag) (H : Hp) (v : V) (n : Str) : Prop := ∃ t l, v = .ref t ∧ SqT K H t (.str n :: l)
theorem NmAt.up {K : PySem.W.Frag} {H H' : Hp} {v : V} {s : Str} (e : Same H H') (h : NmAt K H v s) : NmAt K H' v s := h.elim fun a h => h.elim fun l h => ⟨a, l, h.1, Same.tup e h.2⟩
theorem nm_of {K : PySem.W.Frag} {H : Hp} : ∀ {xs : List V} {ls : List LineD}, Paired (LineAt K H) xs ls → Paired (NmAt K H) xs (ls.map (·.name))
  | _, _, .nil => .nil
  | _, _, .cons ⟨a, h, hs, e, h1, _⟩ p => .cons ⟨a, _, e, h1⟩ (nm_of p)
theorem nw_of {K : PySem.W.Frag} {H : Hp} : ∀ {xs : List V} {ls : List WorkD}, Paired (WorkAt K H) xs ls → Paired (NmAt K H) xs (ls.map (·.name))
  | _, _, .nil => .nil
  | _, _, .cons ⟨a, e, h1⟩ p => .cons ⟨a, _, e, h1⟩ (nw_of p)
def sp_spoilt_named (K : PySem.W.Frag) : Sp := fun vs H Q _ => ∃ (a f : Addr) (m : Int) (xs : List V) (ns : List Str), vs = [.ref a, .int m, .ref f] ∧ SqT K H a xs ∧ H f = some (.lst (List.replicate xs.length (.bl true))) ∧ Paired (NmAt K H) xs ns ∧ ns.Nodup ∧ ns.length ≤ 12 ∧ (ns.length : Int) ≤ m ∧ ∀ H', Same H H' → Q .non H'
def sp_spoilt_line (K : PySem.W.Frag) : Sp := fun vs H Q _ => ∃ (a : Addr) (ls : List LineD), vs = [.ref a, .int 12] ∧ LinesAt K H a ls ∧ LsOk ls ∧ ∀ H', Same H H' → Q .non H'
def sp_spoilt_work (K : PySem.W.Frag) : Sp := fun vs H Q _ => ∃ (a : Addr) (ls : List WorkD), vs = [.ref a, .int 8] ∧ WorksAt K H a ls ∧ WsOk ls ∧ ∀ H', Same H H' → Q .non H'
def sp_spoilt_handler (K : PySem.W.Frag) : Sp := fun vs H Q _ => ∃ (a b : Addr) (ls : List LineD) (ws : List WorkD), vs = [.ref a, .ref b, .int 7] ∧ LinesAt K H a ls ∧ WorksAt K H b ws ∧ LsOk ls ∧ WsOk ws ∧ AllOk ls ws ∧ ∀ H', Same H H' → Q .non H'
def sp_check_setup (K : PySem.W.Frag) : Sp := fun vs H Q _ => ∃ (a b : Addr) (ls : List LineD) (ws : List WorkD), vs = [.ref a, .ref b] ∧ LinesAt K H a ls ∧ WorksAt K H b ws ∧ LsOk ls ∧ WsOk ws ∧ AllOk ls ws ∧ ∀ H', Same H H' → Q .non H'

section
variable {P : Program} {w : World} {K : PySem.W.Frag} {mg : Str → Option Value} {base : Heap}

abbrev N_spoilt_named : List Str := ["rows", "most", "forms", "names", "at", "row"]
theorem sc_spoilt_named : FnScope N_spoilt_named ["rows", "most", "forms"] (C8.fnScope s_spoilt_named) := C8.fnScope_by (by decide +kernel)
theorem ok_spoilt_named {fd : FuncData} (T : Txt K mg) (F : FunD K "spoilt_named" "spoilt_named" (C8.fnArgs s_spoilt_named) (C8.fnBody s_spoilt_named) (C8.fnScope s_spoilt_named) [] [] (He.ga K "spoilt_named") fd) :
    C8.Cal P w K mg base 1 "spoilt_named" (sp_spoilt_named K) [] := by
  refine C8.cal0 (ds := []) ⟨fun_c8 F, T.f_spoilt_named, F.kp⟩ (F.bindsN fun _ _ _ _ _ _ us hl => match us, hl with | [_, _, _], _ => rfl) .nil sc_spoilt_named (fun vs H Q E h => ?_) (fun cdv A outer s H vs Q E hr h => ?_)
  · obtain ⟨_, _, _, _, _, rfl, _⟩ := h
    rfl
  · have nd := sc_spoilt_named.nd
    have hu := hu_of hr
    obtain ⟨a, f, m, xs, ns, rfl, hs, hfm, hp, ndl, l12, lm, q⟩ := h
    refine ⟨_, (pss_cons (ps_set (i := 3) nd rfl (Or.inl rfl) (pe_lst pa_nil))
      (pss_cons (ps_for PassesOwn.never rfl (pi_enumT (by rfl) T.n_enumerate (pa_cons (pv 0) pa_nil)) (pg_tup rfl (pgs_cons (pg_name (i := 4) nd rfl (Or.inl rfl)) (pgs_cons (pg_name (i := 5) nd rfl (Or.inl rfl)) pgs_nil))) (pss_cons (ps_if (PW.pt (pw_or (pt_cmpR op_eq (pv 4) (pv 1) (nomark _)) (pw_or (pt_not (pt_val (pe_ix (ix_list : IxR _ (rIxL K)) (pv 2) (pv 4) (fun _ _ => rfl)))) (pw_or1 (pt_cmpR op_in_seq (pe_ix ix_tup (pv 5) pe_int (fun _ _ => rfl)) (pv 3) (by rfl)))))) (pss_one (ps_ret (pv 4))) pss_nil)
      (pss_one (ps_expr (pe_bm PySem.F.plainAttrs_list PySem.F.slot_list_append PySem.F.type_list_append mt_append (pv 3) (pa_cons (pe_ix ix_tup (pv 5) pe_int (fun _ _ => rfl)) pa_nil))))))
      (pss_one (ps_ret pe_non)))), ?_⟩
    have hlen := hp.length
    refine ⟨Nat.zero_le _, fun p hfree => ?_⟩
    refine ⟨_, rfl, _, _, rfl, Same.tup (same_new (Same.refl H) hfree) hs, ?_⟩
    refine for_it (walk_enumT (xs := xs)) (fun i σ H' => ∃ x y, σ = [some (.ref a), some (.int m), some (.ref f), some (.ref p), x, y] ∧ Sep H H' [(p, .lst ((ns.take i).map V.str))]) ⟨_, _, rfl, Sep.nil.own hfree⟩ ?_ ?_ ?_
    · rintro i σ H' _ ⟨x, y, _, sp⟩
      exact Same.tup sp.ext hs
    · rintro i v σ H1 H2 hi ⟨x, y, rfl, sp⟩ ⟨t, v1, v2, rfl, hf, rfl, e1, e2⟩
      obtain rfl := Option.some.inj e1
      have hi2 : i < xs.length := (List.getElem?_eq_some_iff.mp e2).1
      obtain ⟨l, hl, hL⟩ := pget hp e2
      have sp2 := sp.drop (o := .tup [.int (i : Nat), v2]) hf
      have hpc := sp2.c0
      refine ⟨_, _, rfl, t_of upd_same, rfl, _, _, rfl, _, _, rfl, rfl, ?_⟩
      refine ⟨_, rfl, _, rfl, rfl, false, congrArg V.bl (decide_eq_false (by intro e; injection e; omega)), iteF ?_⟩
      refine ⟨_, rfl, _, rfl, _, _, _, _, rfl, rfl, l_of (sp2.ext _ _ hfm), atIn (by rw [List.getElem?_replicate, if_pos hi2]), true, rfl, iteF ?_⟩
      obtain ⟨t2, ll, rfl, hb⟩ := NmAt.up sp2.ext hL
      refine ⟨_, rfl, _, _, _, _, rfl, rfl, hb, atI0, _, rfl, _, _, rfl, .inl (l_of hpc), rfl, flat_strs _, false, congrArg V.bl (inV_not (nodup_take ndl hl)), iteF ?_⟩
      refine ⟨_, rfl, .inl ⟨rfl, _, .inl (.inl hpc)⟩, _, rfl, _, _, _, _, rfl, rfl, hb, atI0, _, _, _, rfl, rfl, hpc, ?_, ?_⟩
      · exact sml (m := 12) (by rw [List.length_map, List.length_take]; omega) (by decide)
      · refine ⟨_, _, rfl, ?_⟩
        rw [take_snoc hl, List.map_append]
        exact sp2.put0
    · rintro σ H' ⟨x, y, rfl, sp⟩
      exact q H' sp.ext
abbrev N_spoilt_line : List Str := ["lines", "most", "line"]
theorem sc_spoilt_line : FnScope N_spoilt_line ["lines", "most"] (C8.fnScope s_spoilt_line) := C8.fnScope_by (by decide +kernel)
theorem ok_spoilt_line {fd : FuncData} (T : Txt K mg) (F : FunD K "spoilt_line" "spoilt_line" (C8.fnArgs s_spoilt_line) (C8.fnBody s_spoilt_line) (C8.fnScope s_spoilt_line) [] [] (He.ga K "spoilt_line") fd) (c_is_line : C8.Cal P w K mg base 3 "is_line" (sp_is_line K) []) (c_spoilt_named : C8.Cal P w K mg base 1 "spoilt_named" (sp_spoilt_named K) []) :
    C8.Cal P w K mg base 4 "spoilt_line" (sp_spoilt_line K) [] := by
  refine C8.cal0 (ds := []) ⟨fun_c8 F, T.f_spoilt_line, F.kp⟩ (F.bindsN fun _ _ _ _ _ _ us hl => match us, hl with | [_, _], _ => rfl) .nil sc_spoilt_line (fun vs H Q E h => ?_) (fun cdv A outer s H vs Q E hr h => ?_)
  · obtain ⟨_, _, rfl, _⟩ := h
    rfl
  · have nd := sc_spoilt_line.nd
    have hu := hu_of hr
    obtain ⟨a, ls, rfl, hl, ok, q⟩ := h
    refine ⟨_, (pss_cons (ps_if (PW.pt (pw_or (pt_not (pt_val (pe_callB call_is (by rfl) T.n_isinstance (by decide +kernel) (pa_cons (pv 0) (pa_cons (pe_bltn (v := .ty "tuple") rfl T.n_tuple (by decide +kernel) rfl) pa_nil))))) (pw_or1 (pt_not (pt_truth (pv 0) (by intro _; rfl)))))) (pss_one (ps_ret pe_int)) pss_nil)
      (pss_one (ps_ret (C8.pe_c c_spoilt_named hr (by decide) rfl (pa_cons (pv 0) (pa_cons (pv 1) (pa_cons (pe_lc (own := [("line", 2)]) rfl nd (pi_tup (pv 0)) (blkOk_by (own := [("line", 2)]) (N := N_spoilt_line) (sc := (C8.fnScope s_spoilt_line)) (by decide +kernel)) (fun _ _ _ _ _ => (pg_name (i := 2) nd rfl (Or.inl rfl))) (fun _ _ _ _ _ => pts_nil) (fun _ _ _ _ _ => (C8.pe_c c_is_line hr (by decide) rfl (pa_cons (pv 2) pa_nil)))) pa_nil))))))), ?_⟩
    obtain ⟨xs, hs, hp⟩ := hl
    have hlen := hp.length
    refine ⟨_, rfl, _, _, _, _, rfl, ty_tup hs, kb4, true, rfl, iteF ?_⟩
    refine ⟨_, rfl, true, .inr (.inl ⟨_, hs, by
      cases xs with
      | nil => cases ls with
        | nil => exact absurd rfl ok.ne
        | cons _ _ => simp at hlen
      | cons _ _ => rfl⟩), iteF ?_⟩
    refine ⟨_, rfl, _, rfl, _, rfl, _, rfl, ⟨_, hs⟩, fun D hD => ?_⟩
    refine lc_it (walk_tup (xs := xs)) (fun i H' => Sep H H' [(D, .lst (List.replicate i (.bl true)))]) (Sep.nil.own hD) ?_ ?_ ?_
    · rintro i H' _ sp
      exact Same.tup sp.ext hs
    · rintro i v H1 H2 hi sp ⟨rfl, e2⟩
      obtain ⟨l, hl, hL⟩ := pget hp e2
      refine ⟨rfl, _, rfl, v, l, rfl, LineAt.up sp.ext hL, ok.ok l (List.mem_of_getElem? hl), _, sp.c0, ?_, ?_⟩
      · exact sml (m := 12) (by have := ok.le; rw [List.length_replicate]; omega) (by decide)
      · rw [List.replicate_succ']
        exact sp.put0
    rintro H1 sp
    have le := ok.le
    exact ⟨a, D, 12, xs, ls.map (·.name), rfl, Same.tup sp.ext hs, sp.c0, nm_of (hp.mono fun _ _ z => LineAt.up sp.ext z), ok.nd, by rw [List.length_map]; omega, by rw [List.length_map]; omega, fun H' g => q H' (Same.tr sp.ext g)⟩
abbrev N_spoilt_work : List Str := ["works", "most", "work"]
theorem sc_spoilt_work : FnScope N_spoilt_work ["works", "most"] (C8.fnScope s_spoilt_work) := C8.fnScope_by (by decide +kernel)
theorem ok_spoilt_work {fd : FuncData} (T : Txt K mg) (F : FunD K "spoilt_work" "spoilt_work" (C8.fnArgs s_spoilt_work) (C8.fnBody s_spoilt_work) (C8.fnScope s_spoilt_work) [] [] (He.ga K "spoilt_work") fd) (c_is_work : C8.Cal P w K mg base 3 "is_work" (sp_is_work K) []) (c_spoilt_named : C8.Cal P w K mg base 1 "spoilt_named" (sp_spoilt_named K) []) :
    C8.Cal P w K mg base 4 "spoilt_work" (sp_spoilt_work K) [] := by
  refine C8.cal0 (ds := []) ⟨fun_c8 F, T.f_spoilt_work, F.kp⟩ (F.bindsN fun _ _ _ _ _ _ us hl => match us, hl with | [_, _], _ => rfl) .nil sc_spoilt_work (fun vs H Q E h => ?_) (fun cdv A outer s H vs Q E hr h => ?_)
  · obtain ⟨_, _, rfl, _⟩ := h
    rfl
  · have nd := sc_spoilt_work.nd
    have hu := hu_of hr
    obtain ⟨a, ls, rfl, hl, ok, q⟩ := h
    refine ⟨_, (pss_cons (ps_if (pt_not (pt_val (pe_callB call_is (by rfl) T.n_isinstance (by decide +kernel) (pa_cons (pv 0) (pa_cons (pe_bltn (v := .ty "tuple") rfl T.n_tuple (by decide +kernel) rfl) pa_nil))))) (pss_one (ps_ret pe_int)) pss_nil)
      (pss_one (ps_ret (C8.pe_c c_spoilt_named hr (by decide) rfl (pa_cons (pv 0) (pa_cons (pv 1) (pa_cons (pe_lc (own := [("work", 2)]) rfl nd (pi_tup (pv 0)) (blkOk_by (own := [("work", 2)]) (N := N_spoilt_work) (sc := (C8.fnScope s_spoilt_work)) (by decide +kernel)) (fun _ _ _ _ _ => (pg_name (i := 2) nd rfl (Or.inl rfl))) (fun _ _ _ _ _ => pts_nil) (fun _ _ _ _ _ => (C8.pe_c c_is_work hr (by decide) rfl (pa_cons (pv 2) pa_nil)))) pa_nil))))))), ?_⟩
    obtain ⟨xs, hs, hp⟩ := hl
    have hlen := hp.length
    refine ⟨_, rfl, _, _, _, _, rfl, ty_tup hs, kb4, true, rfl, iteF ?_⟩
    refine ⟨_, rfl, _, rfl, _, rfl, _, rfl, ⟨_, hs⟩, fun D hD => ?_⟩
    refine lc_it (walk_tup (xs := xs)) (fun i H' => Sep H H' [(D, .lst (List.replicate i (.bl true)))]) (Sep.nil.own hD) ?_ ?_ ?_
    · rintro i H' _ sp
      exact Same.tup sp.ext hs
    · rintro i v H1 H2 hi sp ⟨rfl, e2⟩
      obtain ⟨l, hl, hL⟩ := pget hp e2
      refine ⟨rfl, _, rfl, v, l, rfl, WorkAt.up sp.ext hL, ok.ok l (List.mem_of_getElem? hl), _, sp.c0, ?_, ?_⟩
      · exact sml (m := 12) (by have := ok.le; rw [List.length_replicate]; omega) (by decide)
      · rw [List.replicate_succ']
        exact sp.put0
    rintro H1 sp
    have le := ok.le
    exact ⟨a, D, 8, xs, ls.map (·.name), rfl, Same.tup sp.ext hs, sp.c0, nw_of (hp.mono fun _ _ z => WorkAt.up sp.ext z), ok.nd, by rw [List.length_map]; omega, by rw [List.length_map]; omega, fun H' g => q H' (Same.tr sp.ext g)⟩
abbrev N_spoilt_handler : List Str := ["lines", "works", "max_flag", "kinds", "line", "names", "work", "at", "step"]
theorem sc_spoilt_handler : FnScope N_spoilt_handler ["lines", "works", "max_flag"] (C8.fnScope s_spoilt_handler) := C8.fnScope_by (by decide +kernel)
theorem ok_spoilt_handler {fd : FuncData} (T : Txt K mg) (F : FunD K "spoilt_handler" "spoilt_handler" (C8.fnArgs s_spoilt_handler) (C8.fnBody s_spoilt_handler) (C8.fnScope s_spoilt_handler) [] [] (He.ga K "spoilt_handler") fd) (c_is_step : C8.Cal P w K mg base 3 "is_step" (sp_is_step K) []) :
    C8.Cal P w K mg base 4 "spoilt_handler" (sp_spoilt_handler K) [] := by
  refine C8.cal0 (ds := []) ⟨fun_c8 F, T.f_spoilt_handler, F.kp⟩ (F.bindsN fun _ _ _ _ _ _ us hl => match us, hl with | [_, _, _], _ => rfl) .nil sc_spoilt_handler (fun vs H Q E h => ?_) (fun cdv A outer s H vs Q E hr h => ?_)
  · obtain ⟨_, _, _, _, rfl, _⟩ := h
    rfl
  · have nd := sc_spoilt_handler.nd
    have hu := hu_of hr
    obtain ⟨a, b, ls, ws, rfl, ⟨xs, hs, hp⟩, ⟨ys, ht, hr2⟩, ok, okw, oks, q⟩ := h
    refine ⟨_, (pss_cons (ps_set (i := 3) nd rfl (Or.inr rfl) (pe_dc (own := [("line", 4)]) rfl nd (pi_tup (pv 0)) (blkOk_by (own := [("line", 4)]) (N := N_spoilt_handler) (sc := (C8.fnScope s_spoilt_handler)) (by decide +kernel)) (fun _ _ _ _ _ => (pg_name (i := 4) nd rfl (Or.inl rfl))) (fun _ _ _ _ _ => pts_nil) (fun _ _ _ _ _ => (pe_ix (ix_tup : IxR _ (rIxT K)) (pv 4) pe_int (fun _ _ => rfl))) (fun _ _ _ _ _ => (pe_ix (ix_tup : IxR _ (rIxT K)) (pv 4) pe_int (fun _ _ => rfl)))))
      (pss_cons (ps_set (i := 5) nd rfl (Or.inr rfl) (pe_lc (own := [("work", 6)]) rfl nd (pi_tup (pv 1)) (blkOk_by (own := [("work", 6)]) (N := N_spoilt_handler) (sc := (C8.fnScope s_spoilt_handler)) (by decide +kernel)) (fun _ _ _ _ _ => (pg_name (i := 6) nd rfl (Or.inl rfl))) (fun _ _ _ _ _ => pts_nil) (fun _ _ _ _ _ => (pe_ix (ix_tup : IxR _ (rIxT K)) (pv 6) pe_int (fun _ _ => rfl)))))
      (pss_cons (ps_for PassesOwn.never rfl (pi_enumT (by rfl) T.n_enumerate (pa_cons (pv 0) pa_nil)) (pg_tup rfl (pgs_cons (pg_name (i := 7) nd rfl (Or.inl rfl)) (pgs_cons (pg_name (i := 4) nd rfl (Or.inl rfl)) pgs_nil))) (pss_one (ps_if (pt_not (pt_val (pe_callB (cr_all rfl) (by rfl) T.n_all (by decide +kernel) (pa_cons (pe_lc (own := [("step", 8)]) rfl nd (pi_tup (pe_ix ix_tup (pv 4) pe_int (fun _ _ => rfl))) (blkOk_by (own := [("step", 8)]) (N := N_spoilt_handler) (sc := (C8.fnScope s_spoilt_handler)) (by decide +kernel)) (fun _ _ _ _ _ => (pg_name (i := 8) nd rfl (Or.inl rfl))) (fun _ _ _ _ _ => pts_nil) (fun _ _ _ _ _ => (C8.pe_c c_is_step hr (by decide) rfl (pa_cons (pv 8) (pa_cons (pv 3) (pa_cons (pv 5) (pa_cons (pv 2) pa_nil))))))) pa_nil)))) (pss_one (ps_ret (pv 7))) pss_nil)))
      (pss_one (ps_ret pe_non))))), ?_⟩
    
    have hlen := hp.length
    have hlenw := hr2.length
    refine ⟨_, rfl, _, rfl, ⟨_, hs⟩, fun D hD => ?_⟩
    refine dc_it (walk_tup (xs := xs)) (fun i H' => Sep H H' [(D, .dK (lk (ls.take i)))]) (Sep.nil.own hD) ?_ ?_ ?_
    · rintro i H' _ sp
      exact Same.tup sp.ext hs
    · rintro i v H1 H2 hi sp ⟨rfl, e2⟩
      obtain ⟨l, hl, hL⟩ := pget hp e2
      obtain ⟨c, g, hs2, rfl, hb, _⟩ := LineAt.up sp.ext hL
      refine ⟨rfl, ⟨_, rfl, _, _, _, _, rfl, rfl, hb, rfl, _, rfl, _, _, _, _, rfl, rfl, hb, rfl, _, .inr l.name, rfl, sp.c0, ?_, ?_⟩⟩
      · exact sml (m := 12) (by have := ok.le; unfold lk; rw [List.length_map, List.length_take]; omega) (by decide)
      · rw [lk_snoc ok.nd hl]
        exact sp.put0
    rintro H1 sp
    rw [List.take_of_length_le (by omega)] at sp
    refine ⟨_, rfl, _, rfl, ⟨_, Same.tup sp.ext ht⟩, fun D2 hD2 => ?_⟩
    refine lc_it (walk_tup (xs := ys)) (fun i H' => Sep H H' [(D2, .lst (((ws.take i).map (·.name)).map V.str)), (D, .dK (lk ls))]) (sp.own hD2) ?_ ?_ ?_
    · rintro i H' _ sp
      exact Same.tup sp.ext ht
    · rintro i v H1 H2 hi sp ⟨rfl, e2⟩
      obtain ⟨l, hl, hL⟩ := pget hr2 e2
      obtain ⟨c, rfl, hb⟩ := WorkAt.up sp.ext hL
      refine ⟨rfl, ⟨_, rfl, _, _, _, _, rfl, rfl, hb, rfl, _, sp.c0, ?_, ?_⟩⟩
      · exact sml (m := 12) (by have := okw.le; rw [List.length_map, List.length_map, List.length_take]; omega) (by decide)
      · rw [take_snoc hl, List.map_append, List.map_append]
        exact sp.put0
    rintro H2 sp2
    rw [List.take_of_length_le (by omega)] at sp2
    refine ⟨_, rfl, _, _, rfl, Same.tup sp2.ext hs, ?_⟩
    refine for_it (walk_enumT (xs := xs)) (fun i σ H' => ∃ x y z u, σ = [some (.ref a), some (.ref b), some (.int 7), some (.ref D), x, some (.ref D2), u, y, z] ∧ Sep H H' [(D2, .lst ((ws.map (·.name)).map V.str)), (D, .dK (lk ls))]) ⟨_, _, _, _, rfl, sp2⟩ ?_ ?_ ?_
    · rintro i σ H' _ ⟨_, _, _, _, _, sp⟩
      exact Same.tup sp.ext hs
    · rintro i v σ H1 H2 hi ⟨x, y, z, u, rfl, sp⟩ ⟨t, v1, v2, rfl, hf, rfl, e1, e2⟩
      obtain rfl := Option.some.inj e1
      obtain ⟨l, hl, hL⟩ := pget hp e2
      have sp2 := sp.drop (o := .tup [.int (i : Nat), v2]) hf
      obtain ⟨c, g, gs, rfl, hb0, hg, hst⟩ := hL
      have hb := Same.tup sp2.ext hb0
      have hlg := hst.length
      refine ⟨_, _, rfl, t_of upd_same, rfl, _, _, rfl, _, _, rfl, rfl, ?_⟩
      refine ⟨_, rfl, _, _, _, _, rfl, rfl, hb, rfl, _, rfl, ⟨_, Same.tup sp2.ext hg⟩, fun D3 hD3 => ?_⟩
      refine lc_it (walk_tup (xs := gs)) (fun i H' => Sep H H' [(D3, .lst (List.replicate i (.bl true))), (D2, .lst ((ws.map (·.name)).map V.str)), (D, .dK (lk ls))]) (sp2.own hD3) ?_ ?_ ?_
      · rintro j H' _ sp
        exact Same.tup sp.ext hg
      · rintro j v H3 H4 hj sp3 ⟨rfl, e3⟩
        obtain ⟨st, hst1, hst2⟩ := pget hst e3
        refine ⟨rfl, ⟨_, rfl, _, rfl, _, rfl, _, rfl, ?_⟩⟩
        refine ⟨_, D, D2, st, ls, ws, rfl, StepAt.up sp3.ext hst2, sp3.c2, ok.nd, l_of sp3.c1, oks l (List.mem_of_getElem? hl) st (List.mem_of_getElem? hst1), _, sp3.c0, ?_, ?_⟩
        · rw [List.length_replicate]
          exact sml (m := 12) (by have := (ok.ok l (List.mem_of_getElem? hl)).s8; omega) (by decide)
        · rw [List.replicate_succ']
          exact sp3.put0
      · rintro H3 sp3
        refine ⟨_, List.replicate gs.length true, rfl, l_of (by rw [List.map_replicate]; exact sp3.c0), true, congrArg V.bl (by simp), iteF ?_⟩
        exact ⟨_, _, _, _, rfl, sp3.tail⟩
    · rintro σ H' ⟨_, _, _, _, rfl, sp⟩
      exact q H' sp.ext
abbrev N_check_setup : List Str := ["lines", "works", "at"]
theorem sc_check_setup : FnScope N_check_setup ["lines", "works"] (C8.fnScope s_check_setup) := C8.fnScope_by (by decide +kernel)
theorem ok_check_setup {fd : FuncData} (T : Txt K mg) (F : FunD K "check_setup" "check_setup" (C8.fnArgs s_check_setup) (C8.fnBody s_check_setup) (C8.fnScope s_check_setup) [] [] (He.ga K "check_setup") fd) (c_spoilt_line : C8.Cal P w K mg base 4 "spoilt_line" (sp_spoilt_line K) []) (c_spoilt_work : C8.Cal P w K mg base 4 "spoilt_work" (sp_spoilt_work K) []) (c_spoilt_handler : C8.Cal P w K mg base 4 "spoilt_handler" (sp_spoilt_handler K) []) :
    C8.Cal P w K mg base 5 "check_setup" (sp_check_setup K) [] := by
  refine C8.cal0 (ds := []) ⟨fun_c8 F, T.f_check_setup, F.kp⟩ (F.bindsN fun _ _ _ _ _ _ us hl => match us, hl with | [_, _], _ => rfl) .nil sc_check_setup (fun vs H Q E h => ?_) (fun cdv A outer s H vs Q E hr h => ?_)
  · obtain ⟨_, _, _, _, rfl, _⟩ := h
    rfl
  · have nd := sc_check_setup.nd
    have hu := hu_of hr
    obtain ⟨a, b, ls, ws, rfl, hl, hw, ok, okw, oks, q⟩ := h
    refine ⟨_, (pss_cons (ps_set (i := 2) nd rfl (Or.inl rfl) (C8.pe_c c_spoilt_line hr (by decide) rfl (pa_cons (pv 0) (pa_cons (ClX.pe_cval (pe_glob (v := .ref (aC "Setup" K)) rfl T.g_Setup rfl)) pa_nil))))
      (pss_cons (ps_if (pt_cmpR op_notN (pv 2) pe_non (nomark _)) (pss_one ps_never) pss_nil)
      (pss_cons (ps_set (i := 2) nd rfl (Or.inl rfl) (C8.pe_c c_spoilt_work hr (by decide) rfl (pa_cons (pv 1) (pa_cons (ClX.pe_cval (pe_glob (v := .ref (aC "Setup" K)) rfl T.g_Setup rfl)) pa_nil))))
      (pss_cons (ps_if (pt_cmpR op_notN (pv 2) pe_non (nomark _)) (pss_one ps_never) pss_nil)
      (pss_cons (ps_set (i := 2) nd rfl (Or.inl rfl) (C8.pe_c c_spoilt_handler hr (by decide) rfl (pa_cons (pv 0) (pa_cons (pv 1) (pa_cons (ClX.pe_cval (pe_glob (v := .ref (aC "Setup" K)) rfl T.g_Setup rfl)) pa_nil)))))
      (pss_one (ps_if (pt_cmpR op_notN (pv 2) pe_non (nomark _)) (pss_one ps_never) pss_nil))))))), ?_⟩
    
    obtain ⟨u1, c1⟩ := T.c_Setup_MAX_LINES
    obtain ⟨u2, c2⟩ := T.c_Setup_MAX_WORKS
    obtain ⟨u3, c3⟩ := T.c_Setup_MAX_FLAG
    refine ⟨_, rfl, _, _, _, _, rfl, T.r_Setup, c1, a, ls, rfl, hl, ok, fun H1 s1 => ?_⟩
    refine ⟨_, rfl, rfl, false, rfl, iteF ?_⟩
    refine ⟨_, rfl, _, _, _, _, rfl, T.r_Setup, c2, b, ws, rfl, WorksAt.up s1 hw, okw, fun H2 s2 => ?_⟩
    refine ⟨_, rfl, rfl, false, rfl, iteF ?_⟩
    refine ⟨_, rfl, _, rfl, _, _, _, _, rfl, T.r_Setup, c3, a, b, ls, ws, rfl, LinesAt.up s2 (LinesAt.up s1 hl), WorksAt.up s2 (WorksAt.up s1 hw), ok, okw, oks, fun H3 s3 => ?_⟩
    refine ⟨_, rfl, rfl, false, rfl, iteF ?_⟩
    exact q H3 fun b o z => s3 b o (s2 b o (s1 b o z))
end
end Cb

namespace Cb
open PySem PySem.Spec PyProof.Rows L2

def sp_Setup_init (K : PySem.W.Frag) : Sp := fun vs H Q _ => ∃ (x dx a b : Addr) (ls : List LineD) (ws : List WorkD) (K0 : Hp) (M : List (Addr × HO)), vs = [.ref x, .ref a, .ref b] ∧
  Sep K0 H ((x, .ins (aC "Setup" K) dx []) :: M) ∧ LinesAt K K0 a ls ∧ WorksAt K K0 b ws ∧ LsOk ls ∧ WsOk ws ∧ AllOk ls ws ∧
  ∀ K1 H' S, Same K0 K1 → Sep K1 H' M → SetupAt K K1 x S → S.ls = ls → S.ws = ws → SetOk S → Q .non H'

section
variable {P : Program} {w : World} {K : PySem.W.Frag} {mg : Str → Option Value} {base : Heap}

abbrev N_Setup_init : List Str := ["self", "lines", "works", "line", "ranked", "_", "name"]
theorem sc_Setup_init : FnScope N_Setup_init ["self", "lines", "works"] (C8.fnScope s_Setup_init) := C8.fnScope_by (by decide +kernel)
theorem bind_Setup_init {K : PySem.W.Frag} {f : Addr} {fd : FuncData} {dv : V} (F : FunD K "__init__" "Setup.__init__" (C8.fnArgs s_Setup_init) (C8.fnBody s_Setup_init) (C8.fnScope s_Setup_init) [dv] [] f fd) : L2.Binds K fd ["self", "lines", "works"] [] := by
  obtain ⟨ds, hv, hb⟩ := F.binds1 (ps := ["self", "lines", "works"]) 3 1 (by simp) rfl (fun T kV doc pm an cdv ct us its h1 h2 => match us, its, h1, h2 with | [_, _, _], [_], _, _ => ⟨_, rfl, rfl⟩)
  cases hv
  exact hb
theorem fnok_Setup_init {fd : FuncData} (T : Txt K mg) {dv : V} (F : FunD K "__init__" "Setup.__init__" (C8.fnArgs s_Setup_init) (C8.fnBody s_Setup_init) (C8.fnScope s_Setup_init) [dv] [] (He.ma K (aC "Setup" K) "__init__") fd) (c_check_setup : C8.Cal P w K mg base 5 "check_setup" (sp_check_setup K) []) :
    FnOk P w K mg base C8.CX0 6 (He.ma K (aC "Setup" K) "__init__") fd ["self", "lines", "works"] (sp_Setup_init K) := by
  refine C8.fn0 (fun_c8 F) sc_Setup_init (fun vs H Q E h => ?_) (fun cdv A outer s H vs Q E hr h => ?_)
  · obtain ⟨_, _, _, _, _, _, _, _, rfl, _⟩ := h
    rfl
  · have nd := sc_Setup_init.nd
    have hu := hu_of hr
    obtain ⟨x, dx, a, b, ls, ws, K0, M, rfl, sp, hl, hw, ok, okw, oks, q⟩ := h
    refine ⟨_, (pss_cons (ps_expr (C8.pe_c c_check_setup hr (by decide) rfl (pa_cons (pv 1) (pa_cons (pv 2) pa_nil))))
      (pss_cons (ps_fld (pv 0) (pv 1) rfl)
      (pss_cons (ps_fld (pv 0) (pv 2) rfl)
      (pss_cons (ps_fld (pv 0) (pe_dc (own := [("line", 3)]) rfl nd (pi_tup (pv 1)) (blkOk_by (own := [("line", 3)]) (N := N_Setup_init) (sc := (C8.fnScope s_Setup_init)) (by decide +kernel)) (fun _ _ _ _ _ => (pg_name (i := 3) nd rfl (Or.inl rfl))) (fun _ _ _ _ _ => pts_nil) (fun _ _ _ _ _ => (pe_ix (ix_tup : IxR _ (rIxT K)) (pv 3) pe_int (fun _ _ => rfl))) (fun _ _ _ _ _ => (pv 3))) rfl)
      (pss_cons (ps_set (i := 4) nd rfl (Or.inl rfl) (pe_callB cr_sortIS (by rfl) T.n_sorted (by decide +kernel) (pa_cons (pe_lc (own := [("line", 3)]) rfl nd (pi_tup (pv 1)) (blkOk_by (own := [("line", 3)]) (N := N_Setup_init) (sc := (C8.fnScope s_Setup_init)) (by decide +kernel)) (fun _ _ _ _ _ => (pg_name (i := 3) nd rfl (Or.inl rfl))) (fun _ _ _ _ _ => pts_nil) (fun _ _ _ _ _ => (pe_tup (pa_cons (pe_un un_neg (pe_ix (ix_tup : IxR _ (rIxT K)) (pv 3) pe_int (fun _ _ => rfl))) (pa_cons (pe_ix (ix_tup : IxR _ (rIxT K)) (pv 3) pe_int (fun _ _ => rfl)) pa_nil))))) pa_nil)))
      (pss_one (ps_fld (pv 0) (pe_callTy call_tuple_of (by rfl) T.n_tuple (by decide +kernel) (pa_cons (pe_lc (own := [("_", 5), ("name", 6)]) rfl nd (pi_list (pv 4)) (blkOk_by (own := [("_", 5), ("name", 6)]) (N := N_Setup_init) (sc := (C8.fnScope s_Setup_init)) (by decide +kernel)) (fun _ _ _ _ _ => (pg_tup (n := 2) rfl (pgs_cons (pg_name (i := 5) nd rfl (Or.inl rfl)) (pgs_cons (pg_name (i := 6) nd rfl (Or.inl rfl)) pgs_nil)) : PG _ _ (gTup K 2 _))) (fun _ _ _ _ _ => pts_nil) (fun _ _ _ _ _ => (pv 6))) pa_nil)) rfl))))))), ?_⟩
    
    obtain ⟨xs, hs, hp⟩ := hl
    have hlen := hp.length
    refine ⟨_, rfl, _, rfl, a, b, ls, ws, rfl, LinesAt.up sp.ext ⟨xs, hs, hp⟩, WorksAt.up sp.ext hw, ok, okw, oks, fun H1 s1 => ?_⟩
    have sp1 := sp.grow s1
    refine ⟨_, rfl, _, rfl, _, _, _, _, rfl, sp1.c0, T.cl_Setup, T.t_Setup_lines, (by simp), ?_⟩
    have sp2 := sp1.put0 (o' := .ins (aC "Setup" K) dx [("_lines", .ref a)])
    refine ⟨_, rfl, _, rfl, _, _, _, _, rfl, sp2.c0, T.cl_Setup, T.t_Setup_works, (by simp), ?_⟩
    have sp3 := sp2.put0 (o' := .ins (aC "Setup" K) dx [("_lines", .ref a), ("_works", .ref b)])
    refine ⟨_, rfl, _, rfl, ⟨_, Same.tup sp3.ext hs⟩, fun D hD => ?_⟩
    refine dc_it (walk_tup (xs := xs)) (fun i H' => Sep K0 H' ((D, .dK (byN (ls.take i) (xs.take i))) :: (x, .ins (aC "Setup" K) dx [("_lines", .ref a), ("_works", .ref b)]) :: M)) (sp3.own hD) ?_ ?_ ?_
    · rintro i H' _ sp
      exact Same.tup sp.ext hs
    · rintro i v H1 H2 hi sp ⟨rfl, e2⟩
      obtain ⟨l, hl, hL⟩ := pget hp e2
      obtain ⟨c, g, hs2, rfl, hb, _⟩ := LineAt.up sp.ext hL
      refine ⟨rfl, ⟨_, rfl, _, _, _, _, rfl, rfl, hb, rfl, _, rfl, _, .inr l.name, rfl, sp.c0, ?_, ?_⟩⟩
      · exact sml (m := 12) (by have := ok.le; unfold byN; simp; omega) (by decide)
      · rw [byN_snoc ok.nd hl e2]
        exact sp.put0
    rintro H2 sp4
    rw [List.take_of_length_le (Nat.le_of_eq hlen.symm), List.take_of_length_le (Nat.le_refl _)] at sp4
    refine ⟨_, rfl, _, _, _, _, rfl, sp4.c1, T.cl_Setup, T.t_Setup_by_name, (by simp), ?_⟩
    have sp5 := sp4.swap.put0 (o' := .ins (aC "Setup" K) dx [("_lines", .ref a), ("_works", .ref b), ("_by_name", .ref D)])
    have sp6 := sp5.swap.freeze
    have g1 := sp5.swap.new0
    have hD1 : (upd K0 D (.dK (byN ls xs))) D = some (.dK (byN ls xs)) := upd_same
    revert sp6 g1 hD1
    generalize upd K0 D (.dK (byN ls xs)) = K1
    intro sp6 g1 hD1
    refine ⟨_, rfl, _, rfl, ⟨_, Same.tup (Same.tr g1 sp6.ext) hs⟩, fun D2 hD2 => ?_⟩
    refine lc_it (walk_tup (xs := xs)) (fun i H' => ∃ K' acc, Same K1 K' ∧ Sep K' H' ((D2, .lst acc) :: (x, .ins (aC "Setup" K) dx [("_lines", .ref a), ("_works", .ref b), ("_by_name", .ref D)]) :: M) ∧ Paired (RankAt K') acc (ls.take i)) ⟨K1, [], Same.refl _, sp6.own hD2, .nil⟩ ?_ ?_ ?_
    · rintro i H' _ ⟨K', acc, g, sp, _⟩
      exact Same.tup (Same.tr (Same.tr g1 g) sp.ext) hs
    · rintro i v H1 H2 hi ⟨K', acc, g, sp, pr⟩ ⟨rfl, e2⟩
      obtain ⟨l, hl, hL⟩ := pget hp e2
      obtain ⟨c, gg, hs2, rfl, hb, _⟩ := LineAt.up (Same.tr (Same.tr g1 g) sp.ext) hL
      refine ⟨rfl, ⟨_, rfl, _, _, _, _, rfl, rfl, hb, rfl, _, rfl, _, rfl, _, _, _, _, rfl, rfl, hb, rfl, small8 (by simp), fun t ht => ?_⟩⟩
      have z := sp.keep (o := .tup [.int (-l.rank), .str l.name]) ht
      refine ⟨_, z.c0, ?_, _, _, Same.tr g (sp.newk ht), z.put0, ?_⟩
      · exact sml (m := 12) (by have := ok.le; have := pr.length; simp at this; omega) (by decide)
      · rw [take_snoc hl]
        refine Paired.snoc (pr.mono fun v l' h => ?_) ⟨t, rfl, upd_same⟩
        obtain ⟨t', e, h⟩ := h
        exact ⟨t', e, sp.newk ht _ _ h⟩
    rintro H3 ⟨K2, acc, g2, sp7, pr⟩
    rw [List.take_of_length_le (Nat.le_of_eq hlen.symm)] at pr
    refine ⟨_, _, keyOf K2, rfl, l_of sp7.c0, fun v m => ?_, fun ys p hsd hst hpf => ?_⟩
    · obtain ⟨t, i, s, rfl, h, e⟩ := ranked_mem pr m
      exact ⟨t, rfl, by rw [e]; exact sp7.ext _ _ h⟩
    have sp8 := sp7.tail.own (o := .lst ys) hpf
    have pm := hst.perm
    have lenY : ys.length = ls.length := by rw [pm.length_eq, pr.length]
    refine ⟨_, rfl, _, rfl, ⟨_, l_of sp8.c0⟩, fun D3 hD3 => ?_⟩
    refine lc_it (walk_list (xs := ys)) (fun i H' => Sep K2 H' ((D3, .lst ((ys.take i).map fun v => .str (keyOf K2 v).2)) :: (p, .lst ys) :: (x, .ins (aC "Setup" K) dx [("_lines", .ref a), ("_works", .ref b), ("_by_name", .ref D)]) :: M)) (sp8.own hD3) ?_ ?_ ?_
    · rintro i H' _ sp
      exact l_of sp.c1
    · rintro i v H1 H2 hi sp ⟨rfl, e2⟩
      obtain ⟨t, j, s, rfl, h, e⟩ := ranked_mem pr (pm.mem_iff.mp (List.mem_of_getElem? e2))
      refine ⟨_, _, rfl, t_of (sp.ext _ _ h), rfl, _, _, rfl, _, _, rfl, rfl, ?_⟩
      refine ⟨rfl, ⟨_, rfl, _, sp.c0, ?_, ?_⟩⟩
      · exact sml (m := 12) (by have := ok.le; simp; omega) (by decide)
      · rw [take_snoc e2, List.map_append]
        have z := sp.put0 (o' := .lst (List.map (fun v => V.str (keyOf K2 v).2) (List.take i ys) ++ [V.str s]))
        simpa [e] using z
    rintro H4 sp9
    rw [List.take_of_length_le (Nat.le_refl _)] at sp9
    refine ⟨_, _, rfl, .inl ⟨l_of sp9.c0, fun oa hoa => ?_⟩⟩
    have sp10 := sp9.keep (o := .tup (ys.map fun v => .str (keyOf K2 v).2)) hoa
    have g3 := sp9.newk (o := .tup (ys.map fun v => .str (keyOf K2 v).2)) hoa
    have hoa1 : upd K2 oa (.tup (ys.map fun v => .str (keyOf K2 v).2)) oa = some (.tup (ys.map fun v => .str (keyOf K2 v).2)) := upd_same
    revert sp10 g3 hoa1
    generalize upd K2 oa (.tup (ys.map fun v => .str (keyOf K2 v).2)) = K3
    intro sp10 g3 hoa1
    have sp11 := sp10.tail.tail
    refine ⟨_, rfl, _, _, _, _, rfl, sp11.c0, T.cl_Setup, T.t_Setup_order, (by simp), ?_⟩
    have sp12 := sp11.put0 (o' := .ins (aC "Setup" K) dx [("_lines", .ref a), ("_works", .ref b), ("_by_name", .ref D), ("_order", .ref oa)])
    have g4 := sp12.new0
    have gA := Same.tr g1 (Same.tr g2 (Same.tr g3 g4))
    refine q _ _ ⟨ls, ws, ys.map fun v => (keyOf K2 v).2⟩ gA sp12.freeze ⟨dx, a, b, D, oa, xs, upd_same, LinesAt.up gA ⟨xs, hs, hp⟩, WorksAt.up gA hw, Same.tr g2 (Same.tr g3 g4) _ _ hD1, hp.mono fun _ _ z => LineAt.up gA z, ?_⟩ rfl rfl ⟨ok, okw, oks, ?_, srt_of ok.nd pr pm hsd⟩
    · have z := g4 _ _ hoa1
      simpa [Function.comp_def] using z
    · have z := pm.map (fun v => (keyOf K2 v).2)
      rw [ranked_names pr] at z
      exact z
theorem ok_Setup_init {fd : FuncData} (T : Txt K mg) {dv : V} (F : FunD K "__init__" "Setup.__init__" (C8.fnArgs s_Setup_init) (C8.fnBody s_Setup_init) (C8.fnScope s_Setup_init) [dv] [] (He.ma K (aC "Setup" K) "__init__") fd) (c_check_setup : C8.Cal P w K mg base 5 "check_setup" (sp_check_setup K) []) :
    C8.Mak P w K mg base 6 "Setup" (aC "Setup" K) (sp_Setup_init K) [] := by
  exact ⟨_, fd, _, [], T.mk_Setup, fnok_Setup_init T F c_check_setup, T.g_Setup, bind_Setup_init F, .nil⟩
theorem ok_Setup_init1 {fd : FuncData} (T : Txt K mg) {dv : V} (F : FunD K "__init__" "Setup.__init__" (C8.fnArgs s_Setup_init) (C8.fnBody s_Setup_init) (C8.fnScope s_Setup_init) [dv] [] (He.ma K (aC "Setup" K) "__init__") fd) (c_check_setup : C8.Cal P w K mg base 5 "check_setup" (sp_check_setup K) []) :
    C8.Mak P w K mg base 6 "Setup" (aC "Setup" K) (sp_Setup_init K) [dv] := by
  obtain ⟨ds, hv, hb⟩ := F.binds1 (ps := ["self", "lines", "works"]) 2 0 (by simp) rfl (fun T kV doc pm an cdv ct us its h1 h2 => match us, its, h1, h2 with | [_, _], [_], _, _ => ⟨_, rfl, rfl⟩)
  exact ⟨_, fd, _, ds, T.mk_Setup, fnok_Setup_init T F c_check_setup, T.g_Setup, hb, hv⟩
end
end Cb

namespace Cb
open PySem PySem.Spec PyProof.Rows L2

theorem rule_in {x : Str} (h : x ∈ RULES) : inV (.str x) [.str "first", .str "least", .str "turn"] = true := by
  unfold RULES at h
  simp only [List.mem_cons, List.not_mem_nil, or_false] at h
  rcases h with rfl | rfl | rfl <;> decide +kernel
structure StormOk (d : StormD) : Prop where
  m1 : 1 ≤ d.most
  m9 : d.most ≤ 99
  w1 : 1 ≤ d.window
  w9 : d.window ≤ 99
  h1 : 1 ≤ d.hold
  h9 : d.hold ≤ 99
def sp_Setup_len (K : PySem.W.Frag) : Sp := fun vs H Q _ => ∃ (su : Addr) (S : SetD), vs = [.ref su] ∧ SetupAt K H su S ∧ Q (.int S.ls.length) H
def sp_is_route (K : PySem.W.Frag) : Sp := fun vs H Q _ => ∃ (su : Addr) (S : SetD) (c : Nat) (v : V) (r : RouteD), vs = [.ref su, .int (c : Nat), v] ∧ SetupAt K H su S ∧ SetOk S ∧ RouteAt K H v r ∧ r.name ∈ S.order ∧ RtOk c ⟨r.rule, r.stops⟩ ∧ ∀ H', Same H H' → Q (.bl true) H'
def sp_is_storm (K : PySem.W.Frag) : Sp := fun vs H Q _ => ∃ (su : Addr) (S : SetD) (v : V) (d : StormD), vs = [.ref su, v] ∧ SetupAt K H su S ∧ SetOk S ∧ StormAt K H v d ∧ d.name ∈ S.order ∧ StormOk d ∧ ∀ H', Same H H' → Q (.bl true) H'
structure RoutesOk (S : SetD) (c : Nat) (rs : List RouteD) : Prop where
  ok : ∀ r ∈ rs, r.name ∈ S.order ∧ RtOk c ⟨r.rule, r.stops⟩
  nd : (rs.map (·.name)).Nodup
structure StormsOk (S : SetD) (ds : List StormD) : Prop where
  ok : ∀ d ∈ ds, d.name ∈ S.order ∧ StormOk d
  nd : (stN ds).Nodup
def sp_spoilt_route (K : PySem.W.Frag) : Sp := fun vs H Q _ => ∃ (su : Addr) (S : SetD) (c : Nat) (a : Addr) (rs : List RouteD), vs = [.ref su, .int (c : Nat), .ref a] ∧ SetupAt K H su S ∧ SetOk S ∧ RoutesAt K H a rs ∧ RoutesOk S c rs ∧ ∀ H', Same H H' → Q .non H'
def sp_spoilt_storm (K : PySem.W.Frag) : Sp := fun vs H Q _ => ∃ (su : Addr) (S : SetD) (a : Addr) (ds : List StormD), vs = [.ref su, .ref a] ∧ SetupAt K H su S ∧ SetOk S ∧ StormsAt K H a ds ∧ StormsOk S ds ∧ ∀ H', Same H H' → Q .non H'
def sp_check_house (K : PySem.W.Frag) : Sp := fun vs H Q _ => ∃ (su : Addr) (S : SetD) (c : Nat) (ra sa : Addr) (rs : List RouteD) (ds : List StormD), vs = [.ref su, .int (c : Nat), .ref ra, .ref sa] ∧ SetupAt K H su S ∧ SetOk S ∧ 1 ≤ c ∧ c ≤ 6 ∧ RoutesAt K H ra rs ∧ RoutesOk S c rs ∧ StormsAt K H sa ds ∧ StormsOk S ds ∧ ∀ H', Same H H' → Q .non H'
theorem nr_of {K : PySem.W.Frag} {H : Hp} : ∀ {xs : List V} {ls : List RouteD}, Paired (RouteAt K H) xs ls → Paired (NmAt K H) xs (ls.map (·.name))
  | _, _, .nil => .nil
  | _, _, .cons ⟨a, p, e, h1, _⟩ q => .cons ⟨a, _, e, h1⟩ (nr_of q)
theorem nst_of {K : PySem.W.Frag} {H : Hp} : ∀ {xs : List V} {ls : List StormD}, Paired (StormAt K H) xs ls → Paired (NmAt K H) xs (stN ls)
  | _, _, .nil => .nil
  | _, _, .cons ⟨a, e, h1⟩ q => .cons ⟨a, _, e, h1⟩ (nst_of q)
theorem sub_len : ∀ {l o : List Str}, l.Nodup → (∀ x ∈ l, x ∈ o) → l.length ≤ o.length
  | [], _, _, _ => Nat.zero_le _
  | x :: l, o, nd, h => by
    have n2 := List.nodup_cons.mp nd
    have m := h x List.mem_cons_self
    have z := sub_len (l := l) (o := o.erase x) n2.2 fun y hy => (List.mem_erase_of_ne (fun e : y = x => n2.1 (by rw [← e]; exact hy))).mpr (h y (List.mem_cons_of_mem _ hy))
    rw [List.length_erase_of_mem m] at z
    have := List.length_pos_of_mem m
    simp
    omega
theorem ord_mem {S : SetD} (ok : SetOk S) {n : Str} (h : n ∈ S.order) : n ∈ S.ls.map (·.name) := ok.perm.mem_iff.mp h
theorem natV_ints {l : List Nat} : natV l = (l.map fun (k : Nat) => (k : Int)).map V.int := by unfold natV; rw [List.map_map]; rfl
theorem inj_nodup {l : List Nat} (h : l.Nodup) : (l.map fun (k : Nat) => (k : Int)).Nodup := by
  induction l with
  | nil => exact .nil
  | cons x l ih =>
    have n2 := List.nodup_cons.mp h
    rw [List.map_cons]
    refine List.nodup_cons.mpr ⟨fun m => ?_, ih n2.2⟩
    obtain ⟨y, hy, e⟩ := List.mem_map.mp m
    have : y = x := by omega
    exact n2.1 (this ▸ hy)
theorem ord_len {S : SetD} (ok : SetOk S) : S.order.length = S.ls.length := by rw [ok.perm.length_eq, List.length_map]

section
variable {P : Program} {w : World} {K : PySem.W.Frag} {mg : Str → Option Value} {base : Heap}

abbrev N_Setup_len : List Str := ["self"]
theorem sc_Setup_len : FnScope N_Setup_len ["self"] (C8.fnScope s_Setup_len) := C8.fnScope_by (by decide +kernel)
theorem ok_Setup_len {fd : FuncData} (T : Txt K mg) (F : FunD K "__len__" "Setup.__len__" (C8.fnArgs s_Setup_len) (C8.fnBody s_Setup_len) (C8.fnScope s_Setup_len) [] [] (He.ma K (aC "Setup" K) "__len__") fd) :
    C8.Met P w K mg base 1 (aC "Setup" K) "__len__" (sp_Setup_len K) [] := by
  refine C8.met0 T.cl_Setup T.m_Setup_len (fun_c8 F) (F.bindsN fun _ _ _ _ _ _ us hl => match us, hl with | [_], _ => rfl) sc_Setup_len (fun vs H Q E h => ?_) (fun cdv A outer s H vs Q E hr h => ?_)
  · obtain ⟨_, _, rfl, _⟩ := h
    rfl
  · have nd := sc_Setup_len.nd
    have hu := hu_of hr
    obtain ⟨su, S, rfl, hS, q⟩ := h
    refine ⟨_, (pss_one (ps_ret (pe_callB call_len_seq (by rfl) T.n_len (by decide +kernel) (pa_cons (pe_fld (pv 0) rfl) pa_nil)))), ?_⟩
    obtain ⟨dx, la, wa, bn, oa, xs, h1, ⟨ys, h2, hp⟩, _⟩ := hS.ex
    have e := hp.length
    refine ⟨_, rfl, _, _, _, _, _, rfl, h1, T.cl_Setup, T.t_Setup_lines, rfl, _, _, rfl, .inr h2, ?_⟩
    rw [e]
    exact q
abbrev N_is_route : List Str := ["setup", "count", "route", "line", "rule", "processors", "processor"]
theorem sc_is_route : FnScope N_is_route ["setup", "count", "route"] (C8.fnScope s_is_route) := C8.fnScope_by (by decide +kernel)
theorem ok_is_route {fd : FuncData} (T : Txt K mg) (F : FunD K "is_route" "is_route" (C8.fnArgs s_is_route) (C8.fnBody s_is_route) (C8.fnScope s_is_route) [] [] (He.ga K "is_route") fd) (c_contains : C8.Met P w K mg base 1 (aC "Setup" K) "__contains__" (sp_Setup_contains K) []) (c_is_integer : C8.Cal P w K mg base 1 "is_integer" sp_is_integer []) :
    C8.Cal P w K mg base 3 "is_route" (sp_is_route K) [] := by
  refine C8.cal0 (ds := []) ⟨fun_c8 F, T.f_is_route, F.kp⟩ (F.bindsN fun _ _ _ _ _ _ us hl => match us, hl with | [_, _, _], _ => rfl) .nil sc_is_route (fun vs H Q E h => ?_) (fun cdv A outer s H vs Q E hr h => ?_)
  · obtain ⟨_, _, _, _, _, rfl, _⟩ := h
    rfl
  · have nd := sc_is_route.nd
    have hu := hu_of hr
    obtain ⟨su, S, c, v, r, rfl, hS, ok, ⟨t, p, rfl, hl, hp⟩, hn, ro, q⟩ := h
    refine ⟨_, (pss_cons (ps_if (PW.pt (pw_or (pt_not (pt_val (pe_callB call_is (by rfl) T.n_isinstance (by decide +kernel) (pa_cons (pv 2) (pa_cons (pe_bltn (v := .ty "tuple") rfl T.n_tuple (by decide +kernel) rfl) pa_nil))))) (pw_or1 (pt_cmpR op_ne (pe_callB call_len_seq (by rfl) T.n_len (by decide +kernel) (pa_cons (pv 2) pa_nil)) pe_int (nomark _))))) (pss_one (ps_ret pe_bl)) pss_nil)
      (pss_cons (ps_asg (pv 2) (pg_tup rfl (pgs_cons (pg_name (i := 3) nd rfl (Or.inl rfl)) (pgs_cons (pg_name (i := 4) nd rfl (Or.inl rfl)) (pgs_cons (pg_name (i := 5) nd rfl (Or.inl rfl)) pgs_nil)))))
      (pss_cons (ps_if (PW.pt (pw_or (pt_cmpR (C_nin c_contains hr (by decide)) (pv 3) (pv 0) (by rfl)) (pw_or (pt_cmpR op_notIn_seq (pv 4) (C8.pe_gc rfl T.k_RULES) (by rfl)) (pw_or (pt_not (pt_val (pe_callB call_is (by rfl) T.n_isinstance (by decide +kernel) (pa_cons (pv 5) (pa_cons (pe_bltn (v := .ty "tuple") rfl T.n_tuple (by decide +kernel) rfl) pa_nil))))) (pw_or1 (pt_not (pt_truth (pv 5) (by intro _; rfl)))))))) (pss_one (ps_ret pe_bl)) pss_nil)
      (pss_cons (ps_if (pt_not (pt_val (pe_callB (cr_all rfl) (by rfl) T.n_all (by decide +kernel) (pa_cons (pe_lc (own := [("processor", 6)]) rfl nd (pi_tup (pv 5)) (blkOk_by (own := [("processor", 6)]) (N := N_is_route) (sc := (C8.fnScope s_is_route)) (by decide +kernel)) (fun _ _ _ _ _ => (pg_name (i := 6) nd rfl (Or.inl rfl))) (fun _ _ _ _ _ => pts_nil) (fun _ _ _ _ _ => (C8.pe_c c_is_integer hr (by decide) rfl (pa_cons (pv 6) (pa_cons pe_int (pa_cons (pe_op op_sub (pv 1) pe_int) pa_nil)))))) pa_nil)))) (pss_one (ps_ret pe_bl)) pss_nil)
      (pss_one (ps_ret (pe_cmpR op_eq (pe_lenSetT rfl (by rfl) T.n_len (by rfl) T.n_set (pv 5)) (pe_callB call_len_seq (by rfl) T.n_len (by decide +kernel) (pa_cons (pv 5) pa_nil)) (nomark _)))))))), ?_⟩
    refine ⟨_, rfl, _, _, _, _, rfl, ty_tup hl, kb4, true, rfl, iteF ?_⟩
    refine ⟨_, rfl, _, _, rfl, .inr hl, rfl, false, rfl, iteF ?_⟩
    refine ⟨_, rfl, _, _, rfl, hl, rfl, _, _, rfl, _, _, rfl, _, _, rfl, rfl, ?_⟩
    obtain ⟨dx, _, _, _, _, _, h3, _⟩ := hS.ex
    have hm := ord_mem ok hn
    have pos : 0 < r.stops.length := List.length_pos_iff.mpr ro.ne
    have h6 : r.stops.length ≤ 6 := ro.le
    refine ⟨_, rfl, _, rfl, su, dx, _, rfl, h3, su, S, r.name, rfl, hS, ok, _, rfl, false, congrArg V.bl (by rw [decide_eq_true hm]; rfl), iteF ?_⟩
    refine ⟨_, rfl, _, _, rfl, .inr (T.v_RULES _), rfl, rfl, false, congrArg V.bl (by rw [rule_in ro.ru]; rfl), iteF ?_⟩
    refine ⟨_, rfl, _, _, _, _, rfl, ty_tup (t_of hp), kb4, true, rfl, iteF ?_⟩
    refine ⟨_, rfl, true, .inr (.inl ⟨_, t_of hp, by
      unfold natV
      cases hq : r.stops with
      | nil => rw [hq] at pos; exact absurd pos (Nat.lt_irrefl _)
      | cons _ _ => rfl⟩), iteF ?_⟩
    refine ⟨_, rfl, _, rfl, ⟨_, t_of hp⟩, fun D hD => ?_⟩
    refine lc_it (walk_tup (xs := natV r.stops)) (fun i H' => Sep H H' [(D, .lst (List.replicate i (.bl true)))]) (Sep.nil.own hD) ?_ ?_ ?_
    · rintro i H' _ sp
      exact t_of (sp.ext _ _ hp)
    · rintro i v H1 H2 hi sp ⟨rfl, e2⟩
      obtain ⟨k, hk, rfl⟩ := natV_get e2
      have hlt : k < c := ro.lt k (List.mem_of_getElem? hk)
      refine ⟨rfl, _, rfl, _, rfl, _, _, rfl, rfl, _, _, _, rfl, _, sp.c0, ?_, ?_⟩
      · rw [natV_len] at hi
        exact sml (m := 12) (by rw [List.length_replicate]; omega) (by decide)
      · rw [List.replicate_succ', andT (decide_eq_true (by omega)) (decide_eq_true (by omega))]
        exact sp.put0
    rintro H1 sp
    refine ⟨_, List.replicate (natV r.stops).length true, rfl, l_of (by rw [List.map_replicate]; exact sp.c0), true, congrArg V.bl (by simp), iteF ?_⟩
    refine ⟨_, rfl, p, r.stops.map fun (k : Nat) => (k : Int), rfl, ?_, inj_nodup ro.nd, by rw [List.length_map]; omega, ?_⟩
    · rw [← natV_ints]
      exact t_of (sp.ext _ _ hp)
    refine ⟨_, rfl, _, _, rfl, .inr (t_of (sp.ext _ _ hp)), ?_⟩
    rw [natV_len, List.length_map]
    exact ⟨rfl, (congrArg (fun b => Q (.bl b) H1) (decide_eq_true rfl)).mpr (q H1 sp.ext)⟩
abbrev N_is_storm : List Str := ["setup", "storm", "line", "numbers", "number"]
theorem sc_is_storm : FnScope N_is_storm ["setup", "storm"] (C8.fnScope s_is_storm) := C8.fnScope_by (by decide +kernel)
theorem ok_is_storm {fd : FuncData} (T : Txt K mg) (F : FunD K "is_storm" "is_storm" (C8.fnArgs s_is_storm) (C8.fnBody s_is_storm) (C8.fnScope s_is_storm) [] [] (He.ga K "is_storm") fd) (c_contains : C8.Met P w K mg base 1 (aC "Setup" K) "__contains__" (sp_Setup_contains K) []) (c_is_integer : C8.Cal P w K mg base 1 "is_integer" sp_is_integer []) :
    C8.Cal P w K mg base 3 "is_storm" (sp_is_storm K) [] := by
  refine C8.cal0 (ds := []) ⟨fun_c8 F, T.f_is_storm, F.kp⟩ (F.bindsN fun _ _ _ _ _ _ us hl => match us, hl with | [_, _], _ => rfl) .nil sc_is_storm (fun vs H Q E h => ?_) (fun cdv A outer s H vs Q E hr h => ?_)
  · obtain ⟨_, _, _, _, rfl, _⟩ := h
    rfl
  · have nd := sc_is_storm.nd
    have hu := hu_of hr
    obtain ⟨su, S, v, d, rfl, hS, ok, ⟨t, rfl, hl⟩, hn, so, q⟩ := h
    refine ⟨_, (pss_cons (ps_if (PW.pt (pw_or (pt_not (pt_val (pe_callB call_is (by rfl) T.n_isinstance (by decide +kernel) (pa_cons (pv 1) (pa_cons (pe_bltn (v := .ty "tuple") rfl T.n_tuple (by decide +kernel) rfl) pa_nil))))) (pw_or1 (pt_cmpR op_ne (pe_callB call_len_seq (by rfl) T.n_len (by decide +kernel) (pa_cons (pv 1) pa_nil)) pe_int (nomark _))))) (pss_one (ps_ret pe_bl)) pss_nil)
      (pss_cons (ps_asg (pv 1) (pg_star1 rfl (pg_name (i := 2) nd rfl (Or.inl rfl)) (pg_name (i := 3) nd rfl (Or.inl rfl))))
      (pss_one (ps_ret (pe_and (pe_cmpR (C_in c_contains hr (by decide)) (pv 2) (pv 0) (by rfl)) (pe_one (pe_callB (cr_all rfl) (by rfl) T.n_all (by decide +kernel) (pa_cons (pe_lc (own := [("number", 4)]) rfl nd (pi_list (pv 3)) (blkOk_by (own := [("number", 4)]) (N := N_is_storm) (sc := (C8.fnScope s_is_storm)) (by decide +kernel)) (fun _ _ _ _ _ => (pg_name (i := 4) nd rfl (Or.inl rfl))) (fun _ _ _ _ _ => pts_nil) (fun _ _ _ _ _ => (C8.pe_c c_is_integer hr (by decide) rfl (pa_cons (pv 4) (pa_cons pe_int (pa_cons (C8.pe_gc rfl T.k_MAX_STORM) pa_nil)))))) pa_nil)))))))), ?_⟩
    refine ⟨_, rfl, _, _, _, _, rfl, ty_tup hl, kb4, true, rfl, iteF ?_⟩
    refine ⟨_, rfl, _, _, rfl, .inr hl, rfl, false, rfl, iteF ?_⟩
    refine ⟨_, rfl, _, _, _, rfl, hl, by simp, fun D hD => ?_⟩
    obtain ⟨dx, _, _, _, _, _, h3, _⟩ := hS.ex
    have hm := ord_mem ok hn
    have sp := (Sep.nil (H := H)).own (o := .lst (intV [d.most, d.window, d.hold])) hD
    refine ⟨_, rfl, _, rfl, su, dx, _, rfl, sp.ext _ _ h3, su, S, d.name, rfl, SetupAt.up sp.ext hS, ok, _, rfl, true, congrArg V.bl (by rw [decide_eq_true hm]; rfl), iteT ?_⟩
    refine ⟨_, rfl, _, rfl, ⟨_, l_of sp.c0⟩, fun D2 hD2 => ?_⟩
    have z3 : ∀ k ∈ [d.most, d.window, d.hold], 1 ≤ k ∧ k ≤ 99 := fun k m => by
      have h1 := so.m1; have h2 := so.m9; have h3 := so.w1; have h4 := so.w9; have h5 := so.h1; have h6 := so.h9
      simp only [List.mem_cons, List.not_mem_nil, or_false] at m
      rcases m with rfl | rfl | rfl <;> constructor <;> assumption
    refine lc_it (walk_list (xs := intV [d.most, d.window, d.hold])) (fun i H' => Sep H H' [(D2, .lst (List.replicate i (.bl true))), (D, .lst (intV [d.most, d.window, d.hold]))]) (sp.own hD2) ?_ ?_ ?_
    · rintro i H' _ s
      exact l_of s.c1
    · rintro i v H1 H2 hi s ⟨rfl, e2⟩
      obtain ⟨k, hk, rfl⟩ := intV_get e2
      obtain ⟨k1, k2⟩ := z3 k (List.mem_of_getElem? hk)
      refine ⟨rfl, _, rfl, _, _, _, rfl, _, s.c0, ?_, ?_⟩
      · rw [intV_len] at hi
        exact sml (m := 12) (by rw [List.length_replicate]; simp at hi; omega) (by decide)
      · rw [List.replicate_succ', andT (decide_eq_true k1) (decide_eq_true k2)]
        exact s.put0
    rintro H1 s1
    exact ⟨_, List.replicate (intV [d.most, d.window, d.hold]).length true, rfl, l_of (by rw [List.map_replicate]; exact s1.c0), (congrArg (fun b => Q (.bl b) H1) (by simp)).mpr (q H1 s1.ext)⟩
abbrev N_spoilt_route : List Str := ["setup", "count", "routes", "route"]
theorem sc_spoilt_route : FnScope N_spoilt_route ["setup", "count", "routes"] (C8.fnScope s_spoilt_route) := C8.fnScope_by (by decide +kernel)
theorem ok_spoilt_route {fd : FuncData} (T : Txt K mg) (F : FunD K "spoilt_route" "spoilt_route" (C8.fnArgs s_spoilt_route) (C8.fnBody s_spoilt_route) (C8.fnScope s_spoilt_route) [] [] (He.ga K "spoilt_route") fd) (c_len : C8.Met P w K mg base 1 (aC "Setup" K) "__len__" (sp_Setup_len K) []) (c_is_route : C8.Cal P w K mg base 3 "is_route" (sp_is_route K) []) (c_spoilt_named : C8.Cal P w K mg base 1 "spoilt_named" (sp_spoilt_named K) []) :
    C8.Cal P w K mg base 4 "spoilt_route" (sp_spoilt_route K) [] := by
  refine C8.cal0 (ds := []) ⟨fun_c8 F, T.f_spoilt_route, F.kp⟩ (F.bindsN fun _ _ _ _ _ _ us hl => match us, hl with | [_, _, _], _ => rfl) .nil sc_spoilt_route (fun vs H Q E h => ?_) (fun cdv A outer s H vs Q E hr h => ?_)
  · obtain ⟨_, _, _, _, _, rfl, _⟩ := h
    rfl
  · have nd := sc_spoilt_route.nd
    have hu := hu_of hr
    obtain ⟨su, S, c, a, rs, rfl, hS, ok, hl, rk, q⟩ := h
    refine ⟨_, (pss_cons (ps_if (pt_not (pt_val (pe_callB call_is (by rfl) T.n_isinstance (by decide +kernel) (pa_cons (pv 2) (pa_cons (pe_bltn (v := .ty "tuple") rfl T.n_tuple (by decide +kernel) rfl) pa_nil))))) (pss_one (ps_ret (pe_un un_neg pe_int))) pss_nil)
      (pss_one (ps_ret (C8.pe_c c_spoilt_named hr (by decide) rfl (pa_cons (pv 2) (pa_cons (pe_callB (C_len c_len hr (by decide)) (by rfl) T.n_len (by decide +kernel) (pa_cons (pv 0) pa_nil)) (pa_cons (pe_lc (own := [("route", 3)]) rfl nd (pi_tup (pv 2)) (blkOk_by (own := [("route", 3)]) (N := N_spoilt_route) (sc := (C8.fnScope s_spoilt_route)) (by decide +kernel)) (fun _ _ _ _ _ => (pg_name (i := 3) nd rfl (Or.inl rfl))) (fun _ _ _ _ _ => pts_nil) (fun _ _ _ _ _ => (C8.pe_c c_is_route hr (by decide) rfl (pa_cons (pv 0) (pa_cons (pv 1) (pa_cons (pv 3) pa_nil)))))) pa_nil))))))), ?_⟩
    obtain ⟨xs, hs, hp⟩ := hl
    have hlen := hp.length
    obtain ⟨dx, _, _, _, _, _, h3, _⟩ := hS.ex
    have le12 : S.ls.length ≤ 12 := ok.ok.le
    refine ⟨_, rfl, _, _, _, _, rfl, ty_tup hs, kb4, true, rfl, iteF ?_⟩
    refine ⟨_, rfl, _, rfl, su, dx, _, rfl, h3, su, S, rfl, hS, (S.ls.length : Nat), rfl, by omega, by
      have : (2 : Int) ^ 63 = 9223372036854775808 := by decide
      omega, ?_⟩
    have lnm : (rs.map (·.name)).length ≤ S.ls.length := by
      have z := sub_len rk.nd (fun x hx => by obtain ⟨r, hr, rfl⟩ := List.mem_map.mp hx; exact (rk.ok r hr).1)
      rw [ord_len ok] at z
      exact z
    have lrs : (rs.map (·.name)).length = rs.length := by simp [stN]
    refine ⟨_, rfl, _, rfl, ⟨_, hs⟩, fun D hD => ?_⟩
    refine lc_it (walk_tup (xs := xs)) (fun i H' => Sep H H' [(D, .lst (List.replicate i (.bl true)))]) (Sep.nil.own hD) ?_ ?_ ?_
    · rintro i H' _ sp
      exact Same.tup sp.ext hs
    · rintro i v H1 H2 hi sp ⟨rfl, e2⟩
      obtain ⟨l, hl, hL⟩ := pget hp e2
      obtain ⟨hn, hk⟩ := rk.ok l (List.mem_of_getElem? hl)
      have hL2 := RouteAt.up sp.ext hL
      refine ⟨rfl, _, rfl, _, rfl, _, rfl, su, S, c, v, l, rfl, SetupAt.up sp.ext hS, ok, hL2, hn, hk, fun H3 g1 => ?_⟩
      have s2 := sp.grow g1
      refine ⟨_, s2.c0, ?_, ?_⟩
      · exact sml (m := 12) (by rw [List.length_replicate]; omega) (by decide)
      · rw [List.replicate_succ']
        exact s2.put0
    rintro H1 sp
    exact ⟨a, D, (S.ls.length : Nat), xs, rs.map (·.name), rfl, Same.tup sp.ext hs, sp.c0, nr_of (hp.mono fun _ _ z => RouteAt.up sp.ext z), rk.nd, (by omega), (by omega), fun H' g => q H' (Same.tr sp.ext g)⟩
abbrev N_spoilt_storm : List Str := ["setup", "storms", "storm"]
theorem sc_spoilt_storm : FnScope N_spoilt_storm ["setup", "storms"] (C8.fnScope s_spoilt_storm) := C8.fnScope_by (by decide +kernel)
theorem ok_spoilt_storm {fd : FuncData} (T : Txt K mg) (F : FunD K "spoilt_storm" "spoilt_storm" (C8.fnArgs s_spoilt_storm) (C8.fnBody s_spoilt_storm) (C8.fnScope s_spoilt_storm) [] [] (He.ga K "spoilt_storm") fd) (c_len : C8.Met P w K mg base 1 (aC "Setup" K) "__len__" (sp_Setup_len K) []) (c_is_storm : C8.Cal P w K mg base 3 "is_storm" (sp_is_storm K) []) (c_spoilt_named : C8.Cal P w K mg base 1 "spoilt_named" (sp_spoilt_named K) []) :
    C8.Cal P w K mg base 4 "spoilt_storm" (sp_spoilt_storm K) [] := by
  refine C8.cal0 (ds := []) ⟨fun_c8 F, T.f_spoilt_storm, F.kp⟩ (F.bindsN fun _ _ _ _ _ _ us hl => match us, hl with | [_, _], _ => rfl) .nil sc_spoilt_storm (fun vs H Q E h => ?_) (fun cdv A outer s H vs Q E hr h => ?_)
  · obtain ⟨_, _, _, _, rfl, _⟩ := h
    rfl
  · have nd := sc_spoilt_storm.nd
    have hu := hu_of hr
    obtain ⟨su, S, a, rs, rfl, hS, ok, hl, rk, q⟩ := h
    refine ⟨_, (pss_cons (ps_if (pt_not (pt_val (pe_callB call_is (by rfl) T.n_isinstance (by decide +kernel) (pa_cons (pv 1) (pa_cons (pe_bltn (v := .ty "tuple") rfl T.n_tuple (by decide +kernel) rfl) pa_nil))))) (pss_one (ps_ret (pe_un un_neg pe_int))) pss_nil)
      (pss_one (ps_ret (C8.pe_c c_spoilt_named hr (by decide) rfl (pa_cons (pv 1) (pa_cons (pe_callB (C_len c_len hr (by decide)) (by rfl) T.n_len (by decide +kernel) (pa_cons (pv 0) pa_nil)) (pa_cons (pe_lc (own := [("storm", 2)]) rfl nd (pi_tup (pv 1)) (blkOk_by (own := [("storm", 2)]) (N := N_spoilt_storm) (sc := (C8.fnScope s_spoilt_storm)) (by decide +kernel)) (fun _ _ _ _ _ => (pg_name (i := 2) nd rfl (Or.inl rfl))) (fun _ _ _ _ _ => pts_nil) (fun _ _ _ _ _ => (C8.pe_c c_is_storm hr (by decide) rfl (pa_cons (pv 0) (pa_cons (pv 2) pa_nil))))) pa_nil))))))), ?_⟩
    obtain ⟨xs, hs, hp⟩ := hl
    have hlen := hp.length
    obtain ⟨dx, _, _, _, _, _, h3, _⟩ := hS.ex
    have le12 : S.ls.length ≤ 12 := ok.ok.le
    refine ⟨_, rfl, _, _, _, _, rfl, ty_tup hs, kb4, true, rfl, iteF ?_⟩
    refine ⟨_, rfl, _, rfl, su, dx, _, rfl, h3, su, S, rfl, hS, (S.ls.length : Nat), rfl, by omega, by
      have : (2 : Int) ^ 63 = 9223372036854775808 := by decide
      omega, ?_⟩
    have lnm : (stN rs).length ≤ S.ls.length := by
      have z := sub_len rk.nd (fun x hx => by obtain ⟨r, hr, rfl⟩ := List.mem_map.mp hx; exact (rk.ok r hr).1)
      rw [ord_len ok] at z
      exact z
    have lrs : (stN rs).length = rs.length := by simp [stN]
    refine ⟨_, rfl, _, rfl, ⟨_, hs⟩, fun D hD => ?_⟩
    refine lc_it (walk_tup (xs := xs)) (fun i H' => Sep H H' [(D, .lst (List.replicate i (.bl true)))]) (Sep.nil.own hD) ?_ ?_ ?_
    · rintro i H' _ sp
      exact Same.tup sp.ext hs
    · rintro i v H1 H2 hi sp ⟨rfl, e2⟩
      obtain ⟨l, hl, hL⟩ := pget hp e2
      obtain ⟨hn, hk⟩ := rk.ok l (List.mem_of_getElem? hl)
      have hL2 := StormAt.up sp.ext hL
      refine ⟨rfl, _, rfl, _, rfl, su, S, v, l, rfl, SetupAt.up sp.ext hS, ok, hL2, hn, hk, fun H3 g1 => ?_⟩
      have s2 := sp.grow g1
      refine ⟨_, s2.c0, ?_, ?_⟩
      · exact sml (m := 12) (by rw [List.length_replicate]; omega) (by decide)
      · rw [List.replicate_succ']
        exact s2.put0
    rintro H1 sp
    exact ⟨a, D, (S.ls.length : Nat), xs, stN rs, rfl, Same.tup sp.ext hs, sp.c0, nst_of (hp.mono fun _ _ z => StormAt.up sp.ext z), rk.nd, (by omega), (by omega), fun H' g => q H' (Same.tr sp.ext g)⟩
abbrev N_check_house : List Str := ["setup", "count", "routes", "storms", "at"]
theorem sc_check_house : FnScope N_check_house ["setup", "count", "routes", "storms"] (C8.fnScope s_check_house) := C8.fnScope_by (by decide +kernel)
theorem ok_check_house {fd : FuncData} (T : Txt K mg) (F : FunD K "check_house" "check_house" (C8.fnArgs s_check_house) (C8.fnBody s_check_house) (C8.fnScope s_check_house) [] [] (He.ga K "check_house") fd) (c_is_integer : C8.Cal P w K mg base 1 "is_integer" sp_is_integer []) (c_spoilt_route : C8.Cal P w K mg base 4 "spoilt_route" (sp_spoilt_route K) []) (c_spoilt_storm : C8.Cal P w K mg base 4 "spoilt_storm" (sp_spoilt_storm K) []) :
    C8.Cal P w K mg base 5 "check_house" (sp_check_house K) [] := by
  refine C8.cal0 (ds := []) ⟨fun_c8 F, T.f_check_house, F.kp⟩ (F.bindsN fun _ _ _ _ _ _ us hl => match us, hl with | [_, _, _, _], _ => rfl) .nil sc_check_house (fun vs H Q E h => ?_) (fun cdv A outer s H vs Q E hr h => ?_)
  · obtain ⟨_, _, _, _, _, _, _, rfl, _⟩ := h
    rfl
  · have nd := sc_check_house.nd
    have hu := hu_of hr
    obtain ⟨su, S, c, ra, sa, rs, ds, rfl, hS, ok, c1, c6, hr1, ro, hs1, so, q⟩ := h
    refine ⟨_, (pss_cons (ps_if (pt_not (pt_val (C8.pe_c c_is_integer hr (by decide) rfl (pa_cons (pv 1) (pa_cons pe_int (pa_cons (C8.pe_gc rfl T.k_MAX_PROCESSORS) pa_nil)))))) (pss_one ps_never) pss_nil)
      (pss_cons (ps_set (i := 4) nd rfl (Or.inl rfl) (C8.pe_c c_spoilt_route hr (by decide) rfl (pa_cons (pv 0) (pa_cons (pv 1) (pa_cons (pv 2) pa_nil)))))
      (pss_cons (ps_if (pt_cmpR op_notN (pv 4) pe_non (nomark _)) (pss_one ps_never) pss_nil)
      (pss_cons (ps_set (i := 4) nd rfl (Or.inl rfl) (C8.pe_c c_spoilt_storm hr (by decide) rfl (pa_cons (pv 0) (pa_cons (pv 3) pa_nil))))
      (pss_one (ps_if (pt_cmpR op_notN (pv 4) pe_non (nomark _)) (pss_one ps_never) pss_nil)))))), ?_⟩
    refine ⟨_, rfl, _, _, _, rfl, true, congrArg V.bl (andT (decide_eq_true (by omega)) (decide_eq_true (by omega))), iteF ?_⟩
    refine ⟨_, rfl, _, rfl, _, rfl, su, S, c, ra, rs, rfl, hS, ok, hr1, ro, fun H1 g1 => ?_⟩
    refine ⟨_, rfl, rfl, false, rfl, iteF ?_⟩
    refine ⟨_, rfl, _, rfl, su, S, sa, ds, rfl, SetupAt.up g1 hS, ok, StormsAt.up g1 hs1, so, fun H2 g2 => ?_⟩
    refine ⟨_, rfl, rfl, false, rfl, iteF ?_⟩
    exact q H2 (Same.tr g1 g2)
end
end Cb

namespace Cb
open PySem PySem.Spec PyProof.Rows L2

/-! what a house holds -/
inductive HEv where
  | four (w : Str) (t : Int) (n : Str) (p : Nat)
  | held (t : Int) (n : Str)
  | off (t : Int) (p : Nat)
def HEv.vals : HEv → List V
  | .four w t n p => [.str w, .int t, .str n, .int (p : Nat)]
  | .held t n => [.str "held", .int t, .str n]
  | .off t p => [.str "off", .int t, .int (p : Nat)]
def HEvAt (K : PySem.W.Frag) (H : Hp) (v : V) (e : HEv) : Prop := ∃ t, v = .ref t ∧ SqT K H t e.vals
theorem HEvAt.up {K : PySem.W.Frag} {H H' : Hp} {v : V} {r : HEv} (e : Same H H') (h : HEvAt K H v r) : HEvAt K H' v r := h.elim fun a h => ⟨a, h.1, Same.tup e h.2⟩
structure HsD where
  bo : BdD
  ps : List PrD
  sts : List Str
  tn : Str → Nat
  wd : WdD
  bt : Str → Int
  dt : Str → Int
  ev : List HEv
structure AdH where
  hs : Addr
  dh : Addr
  rtA : Addr
  stA : Addr
  B : AdB
  R : AdR
  W : AdW
  sa : Addr
  pa : Addr
  bt : Addr
  dt : Addr
  ev : Addr
  prs : List Addr
structure HFx where
  S : SetD
  c : Nat
  rt : Str → RtD
  ds : List StormD
def lnN (S : SetD) : List Str := S.ls.map (·.name)
def wkN (S : SetD) : List Str := S.ws.map (·.name)
def hsI (K : PySem.W.Frag) (X : AdH) (c : Nat) : HO := .ins (aC "House" K) X.dh [("_setup", .ref X.B.su), ("_count", .int (c : Nat)), ("_routes", .ref X.rtA), ("_storms", .ref X.stA), ("_board", .ref X.B.bo), ("_router", .ref X.R.ro), ("_watch", .ref X.W.wo), ("_states", .ref X.sa), ("_processors", .ref X.pa), ("_begin_totals", .ref X.bt), ("_done_totals", .ref X.dt), ("_events", .ref X.ev)]
structure HouseK (K : PySem.W.Frag) (X : AdH) (F : HFx) (K0 : Hp) : Prop where
  ob : K0 X.hs = some (hsI K X F.c)
  pl : K0 X.pa = some (.lst (X.prs.map V.ref))
  ro : RouterK K X.R F.S F.rt K0
  wa : WatchK K X.W F.ds K0
  c1 : 1 ≤ F.c
  c6 : F.c ≤ 6
  np : X.prs.length = F.c
  rk : ∀ n ∈ F.S.order, RtOk F.c (F.rt n)
theorem HouseK.up {K : PySem.W.Frag} {X : AdH} {F : HFx} {H H' : Hp} (e : Same H H') (h : HouseK K X F H) : HouseK K X F H' := ⟨e _ _ h.ob, e _ _ h.pl, h.ro.up e, h.wa.up e, h.c1, h.c6, h.np, h.rk⟩
/-- a processor with its addresses and what its lists hold -/
structure PQ where
  P : AdP
  p : PrD
  sv : List V
  rv : List V
def PQ.cells (K : PySem.W.Frag) (A : AdB) (q : PQ) : List (Addr × HO) := layP K A q.P q.p q.sv q.rv []
structure PQ.Ok (K : PySem.W.Frag) (S : SetD) (K0 : Hp) (q : PQ) : Prop where
  jk : JobsK K0 q.P.rk q.P.ln S.ws
  ca : Paired (CallAt K K0) q.sv q.p.stack
  rw : Paired (RowAt K K0) q.rv q.p.rows
theorem PQ.Ok.up {K : PySem.W.Frag} {S : SetD} {H H' : Hp} {q : PQ} (e : Same H H') (h : q.Ok K S H) : q.Ok K S H' := ⟨h.jk.up e, h.ca.mono fun _ _ z => CallAt.up e z, h.rw.mono fun _ _ z => RowAt.up e z⟩
def restH (X : AdH) (F : HFx) (h : HsD) (g : Str → Addr) (evv : List V) : List (Addr × HO) :=
  [(X.R.tu, .dK (md F.S.order (tnV h.tn))), (X.sa, .lst (stV h.sts)), (X.W.cn, .dK (gd (stN F.ds) fun n => .ref (g n))), (X.W.un, .dK (md (stN F.ds) h.wd.unt)),
   (X.bt, .dK (md (lnN F.S) h.bt)), (X.dt, .dK (md (wkN F.S) h.dt)), (X.ev, .lst evv)]
/-- what holds of the plain things beside the board and the processors -/
structure RestOk (K : PySem.W.Frag) (F : HFx) (K0 : Hp) (h : HsD) (g : Str → Addr) (evv : List V) : Prop where
  sl : h.sts.length = F.c
  tl : ∀ n ∈ F.S.order, h.tn n < (F.rt n).stops.length
  wg : ∀ d ∈ F.ds, K0 (g d.name) = some (.tup (intV (h.wd.cnt d.name)))
  ev : Paired (HEvAt K K0) evv h.ev
theorem RestOk.up {K : PySem.W.Frag} {F : HFx} {H H' : Hp} {h : HsD} {g : Str → Addr} {evv : List V} (e : Same H H') (r : RestOk K F H h g evv) : RestOk K F H' h g evv := ⟨r.sl, r.tl, fun d m => e _ _ (r.wg d m), r.ev.mono fun _ _ z => HEvAt.up e z⟩
structure OwnH (K : PySem.W.Frag) (X : AdH) (F : HFx) (K0 H : Hp) (h : HsD) (M : List (Addr × HO)) : Prop where
  fx : HouseK K X F K0
  ex : ∃ (g : Str → Addr) (evv : List V) (qs : List PQ), RestOk K F K0 h g evv ∧ qs.map PQ.p = h.ps ∧ qs.map (fun q => q.P.pr) = X.prs ∧ (∀ q ∈ qs, q.Ok K F.S K0) ∧
    OwnB K X.B F.S K0 H h.bo (restH X F h g evv ++ (qs.flatMap (PQ.cells K X.B) ++ M))
section
variable {K : PySem.W.Frag} {X : AdH} {F : HFx} {K0 K1 H H' : Hp} {h h' : HsD} {M M' : List (Addr × HO)}
theorem OwnH.ext (o : OwnH K X F K0 H h M) : Same K0 H := by
  obtain ⟨g, evv, qs, r, e1, e2, ok, ob⟩ := o.ex
  exact ob.ext
theorem OwnH.grow (o : OwnH K X F K0 H h M) (s : Same H H') : OwnH K X F K0 H' h M := by
  obtain ⟨g, evv, qs, r, e1, e2, ok, ob⟩ := o.ex
  exact ⟨o.fx, g, evv, qs, r, e1, e2, ok, ob.grow s⟩
theorem OwnH.ok (o : OwnH K X F K0 H h M) : SetOk F.S := by
  obtain ⟨g, evv, qs, r, e1, e2, ok, ob⟩ := o.ex
  exact ob.ok
theorem OwnH.su (o : OwnH K X F K0 H h M) : SetupAt K K0 X.B.su F.S := by
  obtain ⟨g, evv, qs, r, e1, e2, ok, ob⟩ := o.ex
  exact ob.su
theorem OwnH.obj (o : OwnH K X F K0 H h M) : H X.hs = some (hsI K X F.c) := o.ext _ _ o.fx.ob
theorem OwnH.sl (o : OwnH K X F K0 H h M) : h.sts.length = F.c := by
  obtain ⟨g, evv, qs, r, e1, e2, ok, ob⟩ := o.ex
  exact r.sl
theorem OwnH.pl (o : OwnH K X F K0 H h M) : h.ps.length = F.c := by
  obtain ⟨g, evv, qs, r, e1, e2, ok, ob⟩ := o.ex
  rw [← e1, List.length_map, ← o.fx.np, ← e2, List.length_map]
/-- the board, to be worked on -/
theorem OwnH.board (o : OwnH K X F K0 H h M) : ∃ M1, OwnB K X.B F.S K0 H h.bo (M ++ M1) ∧ ∀ K1 H' b' M', Same K0 K1 → OwnB K X.B F.S K1 H' b' (M' ++ M1) → OwnH K X F K1 H' { h with bo := b' } M' := by
  obtain ⟨g, evv, qs, r, e1, e2, ok, ob⟩ := o.ex
  have pm : ∀ N : List (Addr × HO), (restH X F h g evv ++ (qs.flatMap (PQ.cells K X.B) ++ N)).Perm (N ++ (restH X F h g evv ++ qs.flatMap (PQ.cells K X.B))) := fun N => by
    rw [← List.append_assoc]
    exact List.perm_append_comm
  exact ⟨restH X F h g evv ++ qs.flatMap (PQ.cells K X.B), ob.permM (pm M).symm, fun K1 H' b' M' s ob' => ⟨o.fx.up s, g, evv, qs, ⟨r.sl, r.tl, (r.up s).wg, (r.up s).ev⟩, e1, e2, fun q m => (ok q m).up s, ob'.permM (pm M')⟩⟩
/-- the plain things, to be worked on -/
theorem OwnH.rest (o : OwnH K X F K0 H h M) : ∃ g evv M1, RestOk K F K0 h g evv ∧ OwnB K X.B F.S K0 H h.bo (restH X F h g evv ++ (M ++ M1)) ∧
    ∀ K1 H' h' g' evv' M', Same K0 K1 → RestOk K F K1 h' g' evv' → h'.ps = h.ps → OwnB K X.B F.S K1 H' h'.bo (restH X F h' g' evv' ++ (M' ++ M1)) → OwnH K X F K1 H' h' M' := by
  obtain ⟨g, evv, qs, r, e1, e2, ok, ob⟩ := o.ex
  have pm : ∀ (R N : List (Addr × HO)), (R ++ (qs.flatMap (PQ.cells K X.B) ++ N)).Perm (R ++ (N ++ qs.flatMap (PQ.cells K X.B))) := fun R N => List.perm_append_comm.append_left R
  exact ⟨g, evv, qs.flatMap (PQ.cells K X.B), r, ob.permM (pm _ M).symm, fun K1 H' h' g' evv' M' s r' ep ob' => ⟨o.fx.up s, g', evv', qs, r', by rw [ep]; exact e1, e2, fun q m => (ok q m).up s, ob'.permM (pm _ M')⟩⟩
/-- the k-th processor, to be worked on -/
theorem OwnH.proc (o : OwnH K X F K0 H h M) {k : Nat} (hk : k < F.c) : ∃ P p M1, X.prs[k]? = some P.pr ∧ h.ps[k]? = some p ∧ Own K X.B P F.S K0 H h.bo p (M ++ M1) ∧
    ∀ K1 H' b' P' p' M', Same K0 K1 → P'.pr = P.pr → Own K X.B P' F.S K1 H' b' p' (M' ++ M1) → OwnH K X F K1 H' { h with bo := b', ps := h.ps.set k p' } M' := by
  have hl := o.pl
  obtain ⟨g, evv, qs, r, e1, e2, ok, ob⟩ := o.ex
  have hql : qs.length = F.c := by rw [← hl, ← e1, List.length_map]
  obtain ⟨q, hq⟩ : ∃ q, qs[k]? = some q := ⟨_, List.getElem?_eq_getElem (by omega)⟩
  have hsp : qs = qs.take k ++ q :: qs.drop (k + 1) := by
    have z := List.getElem?_eq_some_iff.mp hq
    obtain ⟨z1, z2⟩ := z
    have z3 := List.drop_eq_getElem_cons z1
    rw [z2] at z3
    rw [← z3, List.take_append_drop]
  have hkl : (qs.take k).length = k := by rw [List.length_take]; omega
  generalize qs.take k = q1 at hsp hkl
  generalize qs.drop (k + 1) = q2 at hsp
  have pm : ∀ (R N : List (Addr × HO)) (q' : PQ), (R ++ ((q1 ++ q' :: q2).flatMap (PQ.cells K X.B) ++ N)).Perm (PQ.cells K X.B q' ++ (N ++ (R ++ (q1.flatMap (PQ.cells K X.B) ++ q2.flatMap (PQ.cells K X.B))))) := fun R N q' => by
    rw [List.flatMap_append, List.flatMap_cons]
    generalize q1.flatMap (PQ.cells K X.B) = a
    generalize PQ.cells K X.B q' = b
    generalize q2.flatMap (PQ.cells K X.B) = c
    have h1 : (a ++ (b ++ c)).Perm (b ++ (a ++ c)) := List.perm_append_comm_assoc a b c
    have h2 : (R ++ ((a ++ (b ++ c)) ++ N)).Perm (R ++ ((b ++ (a ++ c)) ++ N)) := (h1.append_right N).append_left R
    refine h2.trans ?_
    have h3 : (R ++ ((b ++ (a ++ c)) ++ N)).Perm (((b ++ (a ++ c)) ++ N) ++ R) := List.perm_append_comm
    refine h3.trans ?_
    rw [List.append_assoc, List.append_assoc]
    refine List.Perm.append_left b ?_
    have h4 : ((a ++ c) ++ (N ++ R)).Perm ((N ++ R) ++ (a ++ c)) := List.perm_append_comm
    refine h4.trans ?_
    rw [List.append_assoc]
  have lp : ∀ (q' : PQ) (N : List (Addr × HO)), PQ.cells K X.B q' ++ N = layP K X.B q'.P q'.p q'.sv q'.rv N := fun q' N => rfl
  have okq := ok q (List.mem_of_getElem? hq)
  refine ⟨q.P, q.p, restH X F h g evv ++ (q1.flatMap (PQ.cells K X.B) ++ q2.flatMap (PQ.cells K X.B)), ?_, ?_, ⟨okq.jk, q.sv, q.rv, okq.ca, okq.rw, ?_⟩, fun K1 H' b' P' p' M' s ep ow => ?_⟩
  · rw [← e2, List.getElem?_map, hq]; rfl
  · rw [← e1, List.getElem?_map, hq]; rfl
  · rw [hsp] at ob
    exact ob.permM (pm _ M q).symm
  · obtain ⟨sv, rv, h1, h2, ob'⟩ := ow.ex
    refine ⟨o.fx.up s, g, evv, q1 ++ ⟨P', p', sv, rv⟩ :: q2, ⟨r.sl, r.tl, (r.up s).wg, (r.up s).ev⟩, ?_, ?_, fun q' m => ?_, ?_⟩
    · show _ = h.ps.set k p'
      rw [← e1, hsp, List.map_append, List.map_append, List.map_cons, List.map_cons]
      have hk2 : (q1.map PQ.p).length = k := by rw [List.length_map]; exact hkl
      rw [← hk2, List.set_append_right _ _ (Nat.le_refl _), Nat.sub_self]
      rfl
    · rw [← e2, hsp, List.map_append, List.map_append, List.map_cons, List.map_cons]
      show _ ++ P'.pr :: _ = _ ++ q.P.pr :: _
      rw [ep]
    · rcases List.mem_append.mp m with m | m
      · exact (ok q' (by rw [hsp]; exact List.mem_append_left _ m)).up s
      · rcases List.mem_cons.mp m with rfl | m
        · exact ⟨ow.fj, h1, h2⟩
        · exact (ok q' (by rw [hsp]; exact List.mem_append_right _ (List.mem_cons_of_mem _ m))).up s
    · exact OwnB.permM ob' (pm _ M' ⟨P', p', sv, rv⟩)
theorem OwnH.own' {a : Addr} {x : HO} (o : OwnH K X F K0 H h M) (s : Same H H') (e : H a = none) (e' : H' a = some x) : OwnH K X F K0 H' h ((a, x) :: M) := by
  obtain ⟨M1, ob, bk⟩ := o.board
  exact bk K0 H' h.bo ((a, x) :: M) (Same.refl _) (ob.ownM' s e e')
theorem OwnH.keep {a : Addr} {x : HO} (o : OwnH K X F K0 H h M) (e : H a = none) : OwnH K X F (upd K0 a x) (upd H a x) h M ∧ Same K0 (upd K0 a x) := by
  obtain ⟨M1, ob, bk⟩ := o.board
  obtain ⟨o2, s⟩ := ob.keepM (x := x) e
  exact ⟨bk _ _ h.bo M s o2, s⟩
theorem OwnH.freeze {a : Addr} {x : HO} (o : OwnH K X F K0 H h ((a, x) :: M)) : OwnH K X F (upd K0 a x) H h M ∧ Same K0 (upd K0 a x) := by
  obtain ⟨M1, ob, bk⟩ := o.board
  obtain ⟨o2, s⟩ := OwnB.freezeM ob
  exact ⟨bk _ _ h.bo M s o2, s⟩
theorem OwnH.put {a : Addr} {x y : HO} (o : OwnH K X F K0 H h ((a, x) :: M)) : OwnH K X F K0 (upd H a y) h ((a, y) :: M) := by
  obtain ⟨M1, ob, bk⟩ := o.board
  exact bk _ _ h.bo ((a, y) :: M) (Same.refl _) (OwnB.putM ob)
theorem OwnH.fr {a : Addr} {x : HO} (o : OwnH K X F K0 H h ((a, x) :: M)) : H a = some x := by
  obtain ⟨M1, ob, bk⟩ := o.board
  exact OwnB.fr ob
theorem OwnH.perm (o : OwnH K X F K0 H h M) (q : M'.Perm M) : OwnH K X F K0 H h M' := by
  obtain ⟨M1, ob, bk⟩ := o.board
  exact bk _ _ h.bo M' (Same.refl _) (OwnB.permM ob (q.append_right M1))
theorem OwnH.tail {e : Addr × HO} (o : OwnH K X F K0 H h (e :: M)) : OwnH K X F K0 H h M := by
  obtain ⟨M1, ob, bk⟩ := o.board
  obtain ⟨L, sp, bk2⟩ := ob.lens
  exact bk _ _ h.bo M (Same.refl _) (bk2 _ _ (M ++ M1) (Same.refl _) sp.tail)
end

section
variable {P : Program} {w : World} {K : PySem.W.Frag} {mg : Str → Option Value} {base : Heap}

section
variable {K : PySem.W.Frag} {X : AdH} {F : HFx} {K0 K1 H H' : Hp} {h h' : HsD} {M M' : List (Addr × HO)}
theorem OwnH.c_sa (o : OwnH K X F K0 H h M) : H X.sa = some (.lst (stV h.sts)) := by
  obtain ⟨g, evv, M1, r, ob, bk⟩ := o.rest
  obtain ⟨L, sp, _⟩ := ob.lens
  exact sp.at_ (List.mem_append_left _ (List.mem_append_left _ (by simp [restH])))
theorem OwnH.put_sa (o : OwnH K X F K0 H h M) {x : List Str} (hl : x.length = F.c) : OwnH K X F K0 (upd H X.sa (.lst (stV x))) { h with sts := x } M := by
  obtain ⟨g, evv, M1, r, ob, bk⟩ := o.rest
  have ob1 := OwnB.permM ob (List.perm_middle (l₁ := [(X.R.tu, HO.dK (md F.S.order (tnV h.tn)))]) (a := (X.sa, HO.lst (stV h.sts))) (l₂ := [(X.W.cn, HO.dK (gd (stN F.ds) fun n => .ref (g n))), (X.W.un, HO.dK (md (stN F.ds) h.wd.unt)), (X.bt, HO.dK (md (lnN F.S) h.bt)), (X.dt, HO.dK (md (wkN F.S) h.dt)), (X.ev, HO.lst evv)] ++ (M ++ M1))).symm
  have ob2 := OwnB.putM (y := .lst (stV x)) ob1
  refine bk K0 _ { h with sts := x } g evv M (Same.refl _) ⟨hl, r.tl, r.wg, r.ev⟩ rfl ?_
  exact OwnB.permM ob2 (List.perm_middle (l₁ := [(X.R.tu, HO.dK (md F.S.order (tnV h.tn)))]) (a := (X.sa, HO.lst (stV x))) (l₂ := [(X.W.cn, HO.dK (gd (stN F.ds) fun n => .ref (g n))), (X.W.un, HO.dK (md (stN F.ds) h.wd.unt)), (X.bt, HO.dK (md (lnN F.S) h.bt)), (X.dt, HO.dK (md (wkN F.S) h.dt)), (X.ev, HO.lst evv)] ++ (M ++ M1)))
theorem OwnH.c_bt (o : OwnH K X F K0 H h M) : H X.bt = some (.dK (md (lnN F.S) h.bt)) := by
  obtain ⟨g, evv, M1, r, ob, bk⟩ := o.rest
  obtain ⟨L, sp, _⟩ := ob.lens
  exact sp.at_ (List.mem_append_left _ (List.mem_append_left _ (by simp [restH])))
theorem OwnH.put_bt (o : OwnH K X F K0 H h M) {x : Str → Int} : OwnH K X F K0 (upd H X.bt (.dK (md (lnN F.S) x))) { h with bt := x } M := by
  obtain ⟨g, evv, M1, r, ob, bk⟩ := o.rest
  have ob1 := OwnB.permM ob (List.perm_middle (l₁ := [(X.R.tu, HO.dK (md F.S.order (tnV h.tn))), (X.sa, HO.lst (stV h.sts)), (X.W.cn, HO.dK (gd (stN F.ds) fun n => .ref (g n))), (X.W.un, HO.dK (md (stN F.ds) h.wd.unt))]) (a := (X.bt, HO.dK (md (lnN F.S) h.bt))) (l₂ := [(X.dt, HO.dK (md (wkN F.S) h.dt)), (X.ev, HO.lst evv)] ++ (M ++ M1))).symm
  have ob2 := OwnB.putM (y := .dK (md (lnN F.S) x)) ob1
  refine bk K0 _ { h with bt := x } g evv M (Same.refl _) ⟨r.sl, r.tl, r.wg, r.ev⟩ rfl ?_
  exact OwnB.permM ob2 (List.perm_middle (l₁ := [(X.R.tu, HO.dK (md F.S.order (tnV h.tn))), (X.sa, HO.lst (stV h.sts)), (X.W.cn, HO.dK (gd (stN F.ds) fun n => .ref (g n))), (X.W.un, HO.dK (md (stN F.ds) h.wd.unt))]) (a := (X.bt, HO.dK (md (lnN F.S) x))) (l₂ := [(X.dt, HO.dK (md (wkN F.S) h.dt)), (X.ev, HO.lst evv)] ++ (M ++ M1)))
theorem OwnH.c_dt (o : OwnH K X F K0 H h M) : H X.dt = some (.dK (md (wkN F.S) h.dt)) := by
  obtain ⟨g, evv, M1, r, ob, bk⟩ := o.rest
  obtain ⟨L, sp, _⟩ := ob.lens
  exact sp.at_ (List.mem_append_left _ (List.mem_append_left _ (by simp [restH])))
theorem OwnH.put_dt (o : OwnH K X F K0 H h M) {x : Str → Int} : OwnH K X F K0 (upd H X.dt (.dK (md (wkN F.S) x))) { h with dt := x } M := by
  obtain ⟨g, evv, M1, r, ob, bk⟩ := o.rest
  have ob1 := OwnB.permM ob (List.perm_middle (l₁ := [(X.R.tu, HO.dK (md F.S.order (tnV h.tn))), (X.sa, HO.lst (stV h.sts)), (X.W.cn, HO.dK (gd (stN F.ds) fun n => .ref (g n))), (X.W.un, HO.dK (md (stN F.ds) h.wd.unt)), (X.bt, HO.dK (md (lnN F.S) h.bt))]) (a := (X.dt, HO.dK (md (wkN F.S) h.dt))) (l₂ := [(X.ev, HO.lst evv)] ++ (M ++ M1))).symm
  have ob2 := OwnB.putM (y := .dK (md (wkN F.S) x)) ob1
  refine bk K0 _ { h with dt := x } g evv M (Same.refl _) ⟨r.sl, r.tl, r.wg, r.ev⟩ rfl ?_
  exact OwnB.permM ob2 (List.perm_middle (l₁ := [(X.R.tu, HO.dK (md F.S.order (tnV h.tn))), (X.sa, HO.lst (stV h.sts)), (X.W.cn, HO.dK (gd (stN F.ds) fun n => .ref (g n))), (X.W.un, HO.dK (md (stN F.ds) h.wd.unt)), (X.bt, HO.dK (md (lnN F.S) h.bt))]) (a := (X.dt, HO.dK (md (wkN F.S) x))) (l₂ := [(X.ev, HO.lst evv)] ++ (M ++ M1)))
theorem OwnH.c_ev (o : OwnH K X F K0 H h M) : ∃ evv, H X.ev = some (.lst evv) ∧ Paired (HEvAt K K0) evv h.ev := by
  obtain ⟨g, evv, M1, r, ob, bk⟩ := o.rest
  obtain ⟨L, sp, _⟩ := ob.lens
  exact ⟨evv, sp.at_ (List.mem_append_left _ (List.mem_append_left _ (by simp [restH]))), r.ev⟩
/-- an event more: its tuple is kept -/
theorem OwnH.add_ev (o : OwnH K X F K0 H h M) {e : HEv} {t : Addr} {evv : List V} (ht : H t = none) (hv : H X.ev = some (.lst evv)) :
    OwnH K X F (upd K0 t (.tup e.vals)) (upd (upd H t (.tup e.vals)) X.ev (.lst (evv ++ [.ref t]))) { h with ev := h.ev ++ [e] } M ∧ Same K0 (upd K0 t (.tup e.vals)) := by
  obtain ⟨o1, s⟩ := o.keep (x := .tup e.vals) ht
  refine ⟨?_, s⟩
  obtain ⟨g, evv2, M1, r, ob, bk⟩ := o1.rest
  have he : evv2 = evv := by
    obtain ⟨L, sp, _⟩ := ob.lens
    have z : upd H t (.tup e.vals) X.ev = some (.lst evv2) := sp.at_ (List.mem_append_left _ (List.mem_append_left _ (by simp [restH])))
    have ne : X.ev ≠ t := fun q => by rw [q, ht] at hv; cases hv
    rw [upd_ne ne, hv] at z
    injection z with z
    injection z with z
    exact z.symm
  subst he
  have ob1 := OwnB.permM ob (List.perm_middle (l₁ := [(X.R.tu, HO.dK (md F.S.order (tnV h.tn))), (X.sa, HO.lst (stV h.sts)), (X.W.cn, HO.dK (gd (stN F.ds) fun n => .ref (g n))), (X.W.un, HO.dK (md (stN F.ds) h.wd.unt)), (X.bt, HO.dK (md (lnN F.S) h.bt)), (X.dt, HO.dK (md (wkN F.S) h.dt))]) (a := (X.ev, HO.lst evv2)) (l₂ := M ++ M1)).symm
  have ob2 := OwnB.putM (y := .lst (evv2 ++ [V.ref t])) ob1
  refine bk _ _ { h with ev := h.ev ++ [e] } g (evv2 ++ [V.ref t]) M (Same.refl _) ⟨r.sl, r.tl, r.wg, r.ev.snoc ⟨t, rfl, t_of upd_same⟩⟩ rfl ?_
  exact OwnB.permM ob2 (List.perm_middle (l₁ := [(X.R.tu, HO.dK (md F.S.order (tnV h.tn))), (X.sa, HO.lst (stV h.sts)), (X.W.cn, HO.dK (gd (stN F.ds) fun n => .ref (g n))), (X.W.un, HO.dK (md (stN F.ds) h.wd.unt)), (X.bt, HO.dK (md (lnN F.S) h.bt)), (X.dt, HO.dK (md (wkN F.S) h.dt))]) (a := (X.ev, HO.lst (evv2 ++ [V.ref t]))) (l₂ := M ++ M1))
/-- the storms, to be worked on -/
theorem OwnH.watch (o : OwnH K X F K0 H h M) : ∃ M1, OwnW K X.W F.ds K0 H h.wd (M ++ M1) ∧ ∀ K1 H' wd' M', Same K0 K1 → OwnW K X.W F.ds K1 H' wd' (M' ++ M1) → OwnH K X F K1 H' { h with wd := wd' } M' := by
  obtain ⟨g, evv, M1, r, ob, bk⟩ := o.rest
  obtain ⟨L, sp, bkB⟩ := ob.lens
  have pm : ∀ (g : Str → Addr) (wd : WdD) (N : List (Addr × HO)), ((restH X F { h with wd := wd } g evv ++ (N ++ M1)) ++ L).Perm (layW X.W F.ds g wd (N ++ (M1 ++ L ++ ([(X.R.tu, HO.dK (md F.S.order (tnV h.tn))), (X.sa, HO.lst (stV h.sts))] ++ [(X.bt, HO.dK (md (lnN F.S) h.bt)), (X.dt, HO.dK (md (wkN F.S) h.dt)), (X.ev, HO.lst evv)])))) := fun g wd N => by
    have e : (restH X F { h with wd := wd } g evv ++ (N ++ M1)) ++ L = [(X.R.tu, HO.dK (md F.S.order (tnV h.tn))), (X.sa, HO.lst (stV h.sts))] ++ ([(X.W.cn, HO.dK (gd (stN F.ds) fun n => .ref (g n))), (X.W.un, HO.dK (md (stN F.ds) wd.unt))] ++ ([(X.bt, HO.dK (md (lnN F.S) h.bt)), (X.dt, HO.dK (md (wkN F.S) h.dt)), (X.ev, HO.lst evv)] ++ (N ++ (M1 ++ L)))) := by
      simp [restH]
    rw [e]
    refine (List.perm_append_comm_assoc _ _ _).trans ?_
    refine List.Perm.append_left _ ?_
    generalize [(X.R.tu, HO.dK (md F.S.order (tnV h.tn))), (X.sa, HO.lst (stV h.sts))] = a
    generalize [(X.bt, HO.dK (md (lnN F.S) h.bt)), (X.dt, HO.dK (md (wkN F.S) h.dt)), (X.ev, HO.lst evv)] = b
    have h2 : (a ++ (b ++ (N ++ (M1 ++ L)))).Perm ((N ++ (M1 ++ L)) ++ (a ++ b)) := by
      rw [← List.append_assoc]
      exact List.perm_append_comm
    refine h2.trans ?_
    rw [List.append_assoc]
    exact List.Perm.refl _
  refine ⟨M1 ++ L ++ ([(X.R.tu, HO.dK (md F.S.order (tnV h.tn))), (X.sa, HO.lst (stV h.sts))] ++ [(X.bt, HO.dK (md (lnN F.S) h.bt)), (X.dt, HO.dK (md (wkN F.S) h.dt)), (X.ev, HO.lst evv)]), ⟨o.fx.wa, g, r.wg, sp.perm (pm g h.wd M).symm⟩, fun K1 H' wd' M' s ow => ?_⟩
  obtain ⟨g', hg', sp'⟩ := ow.ex
  refine bk K1 H' { h with wd := wd' } g' evv M' s ⟨r.sl, r.tl, hg', (r.up s).ev⟩ rfl ?_
  exact bkB K1 H' _ s (sp'.perm (pm g' wd' M'))
/-- the router's turns and the states, in front -/
theorem OwnH.turns (o : OwnH K X F K0 H h M) : ∃ M1, (∀ n ∈ F.S.order, h.tn n < (F.rt n).stops.length) ∧ OwnB K X.B F.S K0 H h.bo ((X.R.tu, .dK (md F.S.order (tnV h.tn))) :: (X.sa, .lst (stV h.sts)) :: (M ++ M1)) ∧
    ∀ H' tn' M', (∀ n ∈ F.S.order, tn' n < (F.rt n).stops.length) → OwnB K X.B F.S K0 H' h.bo ((X.R.tu, .dK (md F.S.order (tnV tn'))) :: (X.sa, .lst (stV h.sts)) :: (M' ++ M1)) → OwnH K X F K0 H' { h with tn := tn' } M' := by
  obtain ⟨g, evv, M1, r, ob, bk⟩ := o.rest
  have pm : ∀ (tn' : Str → Nat) (N : List (Addr × HO)), (restH X F { h with tn := tn' } g evv ++ (N ++ M1)).Perm ((X.R.tu, .dK (md F.S.order (tnV tn'))) :: (X.sa, .lst (stV h.sts)) :: (N ++ (M1 ++ [(X.W.cn, HO.dK (gd (stN F.ds) fun n => .ref (g n))), (X.W.un, HO.dK (md (stN F.ds) h.wd.unt)), (X.bt, HO.dK (md (lnN F.S) h.bt)), (X.dt, HO.dK (md (wkN F.S) h.dt)), (X.ev, HO.lst evv)]))) := fun tn' N => by
    refine List.Perm.cons _ (List.Perm.cons _ ?_)
    have z : ([(X.W.cn, HO.dK (gd (stN F.ds) fun n => .ref (g n))), (X.W.un, HO.dK (md (stN F.ds) h.wd.unt)), (X.bt, HO.dK (md (lnN F.S) h.bt)), (X.dt, HO.dK (md (wkN F.S) h.dt)), (X.ev, HO.lst evv)] ++ (N ++ M1)).Perm ((N ++ M1) ++ [(X.W.cn, HO.dK (gd (stN F.ds) fun n => .ref (g n))), (X.W.un, HO.dK (md (stN F.ds) h.wd.unt)), (X.bt, HO.dK (md (lnN F.S) h.bt)), (X.dt, HO.dK (md (wkN F.S) h.dt)), (X.ev, HO.lst evv)]) := List.perm_append_comm
    rw [List.append_assoc N M1] at z
    exact z
  exact ⟨M1 ++ [(X.W.cn, HO.dK (gd (stN F.ds) fun n => .ref (g n))), (X.W.un, HO.dK (md (stN F.ds) h.wd.unt)), (X.bt, HO.dK (md (lnN F.S) h.bt)), (X.dt, HO.dK (md (wkN F.S) h.dt)), (X.ev, HO.lst evv)], r.tl, OwnB.permM ob (pm h.tn M).symm, fun H' tn' M' tl ob' => bk K0 H' { h with tn := tn' } g evv M' (Same.refl _) ⟨r.sl, tl, r.wg, r.ev⟩ rfl (OwnB.permM ob' (pm tn' M'))⟩
end
end
end Cb

namespace Cb
open PySem PySem.Spec PyProof.Rows L2

theorem none_of {H H' : Hp} {a : Addr} (g : Same H H') (h : H' a = none) : H a = none := by
  cases e : H a with
  | none => rfl
  | some o => rw [g _ _ e] at h; cases h
def runH (F : HFx) (h : HsD) : List Nat := (List.range F.c).filter (isOn h.sts)
def rowH (F : HFx) (h : HsD) (l : LineD) : List V := [.bl (!h.bo.dis l.name), .bl (h.bo.rung l.name && l.lvl), .bl (waitsB h.bo l), optV (h.bo.pl l.name), optV (h.bo.ow l.name), optV (heldR F.ds h.wd l.name h.bo.tk)]
def sp_House_running (K : PySem.W.Frag) : Sp := fun vs H Q _ => ∃ (X : AdH) (F : HFx) (K0 : Hp) (h : HsD) (M : List (Addr × HO)), vs = [.ref X.hs] ∧ OwnH K X F K0 H h M ∧ ∀ p H', Same H H' → H p = none → H' p = some (.lst (natV (runH F h))) → Q (.ref p) H'
def sp_House_len (K : PySem.W.Frag) : Sp := fun vs H Q _ => ∃ (X : AdH) (F : HFx) (K0 : Hp) (h : HsD) (M : List (Addr × HO)), vs = [.ref X.hs] ∧ OwnH K X F K0 H h M ∧ ∀ H', Same H H' → Q (.int ((runH F h).length : Nat)) H'
def sp_House_check_line (K : PySem.W.Frag) : Sp := fun vs H Q _ => ∃ (X : AdH) (F : HFx) (K0 : Hp) (h : HsD) (M : List (Addr × HO)) (l : LineD), vs = [.ref X.hs, .str l.name] ∧ OwnH K X F K0 H h M ∧ l ∈ F.S.ls ∧ Q .non H
def sp_House_check_processor (K : PySem.W.Frag) : Sp := fun vs H Q _ => ∃ (X : AdH) (F : HFx) (K0 : Hp) (h : HsD) (M : List (Addr × HO)) (p : Nat), vs = [.ref X.hs, .int (p : Nat)] ∧ OwnH K X F K0 H h M ∧ p < F.c ∧ Q .non H
def sp_House_line_row (K : PySem.W.Frag) : Sp := fun vs H Q _ => ∃ (X : AdH) (F : HFx) (K0 : Hp) (h : HsD) (M : List (Addr × HO)) (l : LineD), vs = [.ref X.hs, .str l.name] ∧ OwnH K X F K0 H h M ∧ l ∈ F.S.ls ∧ ∀ a H', Same H H' → H a = none → H' a = some (.tup (rowH F h l)) → Q (.ref a) H'
def sp_House_call (K : PySem.W.Frag) : Sp := sp_House_line_row K
def sp_House_ring (K : PySem.W.Frag) : Sp := fun vs H Q _ => ∃ (X : AdH) (F : HFx) (K0 : Hp) (h : HsD) (M : List (Addr × HO)) (l : LineD), vs = [.ref X.hs, .str l.name] ∧ OwnH K X F K0 H h M ∧ l ∈ F.S.ls ∧ h.bo.rg.length < 16000000 ∧ ∀ K1 H', Same K0 K1 → OwnH K X F K1 H' { h with bo := ringB h.bo l.name } M → Q (.str (ringR (h.bo.rung l.name))) H'
def sp_House_quiet (K : PySem.W.Frag) : Sp := fun vs H Q _ => ∃ (X : AdH) (F : HFx) (K0 : Hp) (h : HsD) (M : List (Addr × HO)) (l : LineD), vs = [.ref X.hs, .str l.name] ∧ OwnH K X F K0 H h M ∧ l ∈ F.S.ls ∧ l.lvl = true ∧ ∀ H', OwnH K X F K0 H' { h with bo := quietB h.bo l.name } M → Q (.bl (h.bo.rung l.name)) H'
def sp_House_mask (K : PySem.W.Frag) : Sp := fun vs H Q _ => ∃ (X : AdH) (F : HFx) (K0 : Hp) (h : HsD) (M : List (Addr × HO)) (l : LineD), vs = [.ref X.hs, .str l.name] ∧ OwnH K X F K0 H h M ∧ l ∈ F.S.ls ∧ ∀ H', OwnH K X F K0 H' { h with bo := maskB h.bo l.name true } M → Q (.bl (!h.bo.dis l.name)) H'
def sp_House_unmask (K : PySem.W.Frag) : Sp := fun vs H Q _ => ∃ (X : AdH) (F : HFx) (K0 : Hp) (h : HsD) (M : List (Addr × HO)) (l : LineD), vs = [.ref X.hs, .str l.name] ∧ OwnH K X F K0 H h M ∧ l ∈ F.S.ls ∧ ∀ H', OwnH K X F K0 H' { h with bo := maskB h.bo l.name false } M → Q (.bl (h.bo.dis l.name)) H'
def sp_House_set_flag (K : PySem.W.Frag) : Sp := fun vs H Q _ => ∃ (X : AdH) (F : HFx) (K0 : Hp) (h : HsD) (M : List (Addr × HO)) (f : Nat), vs = [.ref X.hs, .int (f : Nat)] ∧ OwnH K X F K0 H h M ∧ f ≤ 7 ∧ ∀ H', OwnH K X F K0 H' { h with bo := flagB h.bo f true } M → Q (.bl (!h.bo.fl.getD f false)) H'
def sp_House_clear_flag (K : PySem.W.Frag) : Sp := fun vs H Q _ => ∃ (X : AdH) (F : HFx) (K0 : Hp) (h : HsD) (M : List (Addr × HO)) (f : Nat), vs = [.ref X.hs, .int (f : Nat)] ∧ OwnH K X F K0 H h M ∧ f ≤ 7 ∧ ∀ H', OwnH K X F K0 H' { h with bo := flagB h.bo f false } M → Q (.bl (h.bo.fl.getD f false)) H'
def sp_House_now (K : PySem.W.Frag) : Sp := fun vs H Q _ => ∃ (X : AdH) (F : HFx) (K0 : Hp) (h : HsD) (M : List (Addr × HO)), vs = [.ref X.hs] ∧ OwnH K X F K0 H h M ∧ Q (.int h.bo.tk) H
def sp_House_flags_up (K : PySem.W.Frag) : Sp := fun vs H Q _ => ∃ (X : AdH) (F : HFx) (K0 : Hp) (h : HsD) (M : List (Addr × HO)), vs = [.ref X.hs] ∧ OwnH K X F K0 H h M ∧ ∀ p H', Same H H' → H p = none → H' p = some (.lst ((upF h.bo).map V.int)) → Q (.ref p) H'
def sp_House_rings (K : PySem.W.Frag) : Sp := fun vs H Q _ => ∃ (X : AdH) (F : HFx) (K0 : Hp) (h : HsD) (M : List (Addr × HO)), vs = [.ref X.hs] ∧ OwnH K X F K0 H h M ∧ h.bo.rg.length < 16000000 ∧ ∀ a H' rv, Same H H' → H a = none → H' a = some (.lst rv) → Paired (RgAt K K0) rv h.bo.rg → Q (.ref a) H'
def sp_House_begin_counts (K : PySem.W.Frag) : Sp := fun vs H Q _ => ∃ (X : AdH) (F : HFx) (K0 : Hp) (h : HsD) (M : List (Addr × HO)), vs = [.ref X.hs] ∧ OwnH K X F K0 H h M ∧ ∀ p H', Same H H' → H p = none → H' p = some (.dK (md (lnN F.S) h.bt)) → Q (.ref p) H'
def sp_House_done_counts (K : PySem.W.Frag) : Sp := fun vs H Q _ => ∃ (X : AdH) (F : HFx) (K0 : Hp) (h : HsD) (M : List (Addr × HO)), vs = [.ref X.hs] ∧ OwnH K X F K0 H h M ∧ ∀ p H', Same H H' → H p = none → H' p = some (.dK (md (wkN F.S) h.dt)) → Q (.ref p) H'
def sp_House_log (K : PySem.W.Frag) : Sp := fun vs H Q _ => ∃ (X : AdH) (F : HFx) (K0 : Hp) (h : HsD) (M : List (Addr × HO)), vs = [.ref X.hs] ∧ OwnH K X F K0 H h M ∧ ∀ p H' evv, Same H H' → H p = none → H' p = some (.lst evv) → Paired (HEvAt K K0) evv h.ev → Q (.ref p) H'
def sp_House_setup (K : PySem.W.Frag) : Sp := fun vs H Q _ => ∃ (X : AdH) (F : HFx) (K0 : Hp) (h : HsD) (M : List (Addr × HO)), vs = [.ref X.hs] ∧ OwnH K X F K0 H h M ∧ Q (.ref X.B.su) H
def sp_House_processor_count (K : PySem.W.Frag) : Sp := fun vs H Q _ => ∃ (X : AdH) (F : HFx) (K0 : Hp) (h : HsD) (M : List (Addr × HO)), vs = [.ref X.hs] ∧ OwnH K X F K0 H h M ∧ Q (.int (F.c : Nat)) H
def sp_House_routes (K : PySem.W.Frag) : Sp := fun vs H Q _ => ∃ (X : AdH) (F : HFx) (K0 : Hp) (h : HsD) (M : List (Addr × HO)), vs = [.ref X.hs] ∧ OwnH K X F K0 H h M ∧ Q (.ref X.rtA) H
def sp_House_storms (K : PySem.W.Frag) : Sp := fun vs H Q _ => ∃ (X : AdH) (F : HFx) (K0 : Hp) (h : HsD) (M : List (Addr × HO)), vs = [.ref X.hs] ∧ OwnH K X F K0 H h M ∧ Q (.ref X.stA) H

section
variable {P : Program} {w : World} {K : PySem.W.Frag} {mg : Str → Option Value} {base : Heap}

abbrev N_House_running : List Str := ["self", "at"]
theorem sc_House_running : FnScope N_House_running ["self"] (C8.fnScope s_House_running) := C8.fnScope_by (by decide +kernel)
theorem ok_House_running {fd : FuncData} (T : Txt K mg) (F : FunD K "_running" "House._running" (C8.fnArgs s_House_running) (C8.fnBody s_House_running) (C8.fnScope s_House_running) [] [] (He.ma K (aC "House" K) "_running") fd) :
    C8.Met P w K mg base 1 (aC "House" K) "_running" (sp_House_running K) [] := by
  refine C8.met0 T.cl_House T.m_House_running (fun_c8 F) (F.bindsN fun _ _ _ _ _ _ us hl => match us, hl with | [_], _ => rfl) sc_House_running (fun vs H Q E h => ?_) (fun cdv A outer s H vs Q E hr h => ?_)
  · obtain ⟨_, _, _, _, _, rfl, _⟩ := h
    rfl
  · have nd := sc_House_running.nd
    have hu := hu_of hr
    obtain ⟨X, F, K0, h, M, rfl, o, q⟩ := h
    refine ⟨_, (pss_one (ps_ret (pe_lc (own := [("at", 1)]) rfl nd (pi_range1 (by rfl) T.n_range (pa_cons (pe_fld (pv 0) rfl) pa_nil)) (blkOk_by (own := [("at", 1)]) (N := N_House_running) (sc := (C8.fnScope s_House_running)) (by decide +kernel)) (fun _ _ _ _ _ => (pg_name (i := 1) nd rfl (Or.inl rfl))) (fun _ _ _ _ _ => (pts_one (pt_cmpR op_eq (pe_ix (ix_list : IxR _ (rIxL K)) (pe_fld (pv 0) rfl : PE _ _ (tFld K _ _)) (pv 1) (fun _ _ => rfl)) pe_str (nomark _)))) (fun _ _ _ _ _ => (pv 1))))), ?_⟩
    have ho := o.obj
    have hsl := o.sl
    have hc6 := o.fx.c6
    have csa := o.c_sa
    refine ⟨_, rfl, _, _, _, _, _, rfl, ho, T.cl_House, T.t_House_count, rfl, (F.c : Nat), rfl, by omega, by omega, fun D hD => ?_⟩
    refine lc_it (walk_range (lo := 0) (n := ((F.c : Nat) : Int).toNat)) (fun i H' => Sep H H' [(D, .lst (natV (((List.range F.c).take i).filter (isOn h.sts))))]) (Sep.nil.own hD) (fun _ _ _ _ => trivial) ?_ ?_
    · rintro i v H1 H2 hi s ⟨rfl, rfl⟩
      have hi : i < F.c := by simpa using hi
      obtain ⟨x, hx⟩ : ∃ x, h.sts[i]? = some x := ⟨_, List.getElem?_eq_getElem (by omega)⟩
      have hxo : isOn h.sts i = decide (x = "on") := by unfold isOn; rw [List.getD_eq_getElem?_getD, hx]; rfl
      have hk : (List.range F.c)[i]? = some i := by rw [List.getElem?_range hi]
      refine ⟨rfl, _, rfl, _, _, _, _, _, rfl, (s.ext _ _ ho), T.cl_House, T.t_House_states, rfl, _, rfl, _, _, _, _, rfl, rfl, l_of (s.ext _ _ csa), (by rw [Int.zero_add]; exact atIn (stV_at hx)), rfl, decide (x = "on"), str_eq2, ?_⟩
      have hlen := List.length_filter_le (isOn h.sts) ((List.range F.c).take i)
      rw [List.length_take, List.length_range] at hlen
      rw [filter_snoc (isOn h.sts) hk, hxo]
      cases decide (x = "on") with
      | true =>
        refine iteT ⟨_, rfl, _, s.c0, sm6 (by rw [natV_len]; omega), ?_⟩
        rw [if_pos rfl, ← natV_snoc]
        show Sep H (upd H2 D (HO.lst (natV _ ++ [V.int (0 + (i : Nat))]))) _
        rw [Int.zero_add]
        exact s.put0
      | false =>
        refine iteF ?_
        rw [if_neg (by simp), List.append_nil]
        exact s
    rintro H1 s1
    rw [List.take_of_length_le (by simp)] at s1
    exact q D H1 s1.ext hD s1.c0
abbrev N_House_check_line : List Str := ["self", "line"]
theorem sc_House_check_line : FnScope N_House_check_line ["self", "line"] (C8.fnScope s_House_check_line) := C8.fnScope_by (by decide +kernel)
theorem ok_House_check_line {fd : FuncData} (T : Txt K mg) (F : FunD K "_check_line" "House._check_line" (C8.fnArgs s_House_check_line) (C8.fnBody s_House_check_line) (C8.fnScope s_House_check_line) [] [] (He.ma K (aC "House" K) "_check_line") fd) (c_contains : C8.Met P w K mg base 1 (aC "Setup" K) "__contains__" (sp_Setup_contains K) []) :
    C8.Met P w K mg base 2 (aC "House" K) "_check_line" (sp_House_check_line K) [] := by
  refine C8.met0 T.cl_House T.m_House_check_line (fun_c8 F) (F.bindsN fun _ _ _ _ _ _ us hl => match us, hl with | [_, _], _ => rfl) sc_House_check_line (fun vs H Q E h => ?_) (fun cdv A outer s H vs Q E hr h => ?_)
  · obtain ⟨_, _, _, _, _, _, rfl, _⟩ := h
    rfl
  · have nd := sc_House_check_line.nd
    have hu := hu_of hr
    obtain ⟨X, F, K0, h, M, l, rfl, o, hl, q⟩ := h
    refine ⟨_, (pss_one (ps_if (pt_cmpR (C_nin c_contains hr (by decide)) (pv 1) (pe_fld (pv 0) rfl) (by rfl)) (pss_one ps_never) pss_nil)), ?_⟩
    have ho := o.obj
    have hS := SetupAt.up o.ext o.su
    obtain ⟨dx, _, _, _, _, _, h3, _⟩ := hS.ex
    have hm : l.name ∈ F.S.ls.map (·.name) := List.mem_map_of_mem hl
    refine ⟨_, rfl, _, rfl, _, _, _, _, _, rfl, ho, T.cl_House, T.t_House_setup, rfl, X.B.su, dx, _, rfl, h3, X.B.su, F.S, l.name, rfl, hS, o.ok, _, rfl, false, congrArg V.bl (by rw [decide_eq_true hm]; rfl), iteF ?_⟩
    exact q
abbrev N_House_check_processor : List Str := ["self", "processor"]
theorem sc_House_check_processor : FnScope N_House_check_processor ["self", "processor"] (C8.fnScope s_House_check_processor) := C8.fnScope_by (by decide +kernel)
theorem ok_House_check_processor {fd : FuncData} (T : Txt K mg) (F : FunD K "_check_processor" "House._check_processor" (C8.fnArgs s_House_check_processor) (C8.fnBody s_House_check_processor) (C8.fnScope s_House_check_processor) [] [] (He.ma K (aC "House" K) "_check_processor") fd) (c_is_integer : C8.Cal P w K mg base 1 "is_integer" sp_is_integer []) :
    C8.Met P w K mg base 2 (aC "House" K) "_check_processor" (sp_House_check_processor K) [] := by
  refine C8.met0 T.cl_House T.m_House_check_processor (fun_c8 F) (F.bindsN fun _ _ _ _ _ _ us hl => match us, hl with | [_, _], _ => rfl) sc_House_check_processor (fun vs H Q E h => ?_) (fun cdv A outer s H vs Q E hr h => ?_)
  · obtain ⟨_, _, _, _, _, _, rfl, _⟩ := h
    rfl
  · have nd := sc_House_check_processor.nd
    have hu := hu_of hr
    obtain ⟨X, F, K0, h, M, p, rfl, o, hp, q⟩ := h
    refine ⟨_, (pss_one (ps_if (pt_not (pt_val (C8.pe_c c_is_integer hr (by decide) rfl (pa_cons (pv 1) (pa_cons pe_int (pa_cons (pe_op op_sub (pe_fld (pv 0) rfl) pe_int) pa_nil)))))) (pss_one ps_never) pss_nil)), ?_⟩
    have ho := o.obj
    refine ⟨_, rfl, _, rfl, _, _, _, _, _, rfl, ho, T.cl_House, T.t_House_count, rfl, _, _, rfl, rfl, _, _, _, rfl, true, congrArg V.bl (andT (decide_eq_true (by omega)) (decide_eq_true (by omega))), iteF ?_⟩
    exact q
abbrev N_House_line_row : List Str := ["self", "line", "board", "held", "signs"]
theorem sc_House_line_row : FnScope N_House_line_row ["self", "line"] (C8.fnScope s_House_line_row) := C8.fnScope_by (by decide +kernel)
theorem ok_House_line_row {fd : FuncData} (T : Txt K mg) (F : FunD K "_line_row" "House._line_row" (C8.fnArgs s_House_line_row) (C8.fnBody s_House_line_row) (C8.fnScope s_House_line_row) [] [] (He.ma K (aC "House" K) "_line_row") fd) (c_tick_number : C8.Met P w K mg base 1 (aC "HouseBoard" K) "tick_number" (sp_HouseBoard_tick_number K) []) (c_is_enabled : C8.Met P w K mg base 1 (aC "HouseBoard" K) "is_enabled" (sp_Board_is_enabled K) []) (c_is_high : C8.Met P w K mg base 5 (aC "HouseBoard" K) "is_high" (sp_Board_is_high K) []) (c_waits : C8.Met P w K mg base 5 (aC "HouseBoard" K) "waits" (sp_Board_waits K) []) (c_place_of : C8.Met P w K mg base 1 (aC "HouseBoard" K) "place_of" (sp_HouseBoard_place_of K) []) (c_owner_of : C8.Met P w K mg base 1 (aC "HouseBoard" K) "owner_of" (sp_HouseBoard_owner_of K) []) (c_held_until : C8.Met P w K mg base 1 (aC "StormWatch" K) "held_until" (sp_StormWatch_held_until K) []) :
    C8.Met P w K mg base 6 (aC "House" K) "_line_row" (sp_House_line_row K) [] := by
  refine C8.met0 T.cl_House T.m_House_line_row (fun_c8 F) (F.bindsN fun _ _ _ _ _ _ us hl => match us, hl with | [_, _], _ => rfl) sc_House_line_row (fun vs H Q E h => ?_) (fun cdv A outer s H vs Q E hr h => ?_)
  · obtain ⟨_, _, _, _, _, _, rfl, _⟩ := h
    rfl
  · have nd := sc_House_line_row.nd
    have hu := hu_of hr
    obtain ⟨X, F, K0, h, M, l, rfl, o, hl, q⟩ := h
    refine ⟨_, (pss_cons (ps_set (i := 2) nd rfl (Or.inl rfl) (pe_fld (pv 0) rfl))
      (pss_cons (ps_set (i := 3) nd rfl (Or.inl rfl) (C8.pe_mt c_held_until hr (by decide) (pe_fld (pv 0) rfl) (pa_cons (pv 1) (pa_cons (C8.pe_mt0 c_tick_number hr (by decide) (pv 2)) pa_nil))))
      (pss_cons (ps_set (i := 4) nd rfl (Or.inl rfl) (pe_tup (pa_cons (C8.pe_mt c_is_enabled hr (by decide) (pv 2) (pa_cons (pv 1) pa_nil)) (pa_cons (C8.pe_mt c_is_high hr (by decide) (pv 2) (pa_cons (pv 1) pa_nil)) (pa_cons (C8.pe_mt c_waits hr (by decide) (pv 2) (pa_cons (pv 1) pa_nil)) pa_nil)))))
      (pss_one (ps_ret (pe_tup (StX.pa_star (pv 4) (pa_cons (C8.pe_mt c_place_of hr (by decide) (pv 2) (pa_cons (pv 1) pa_nil)) (pa_cons (C8.pe_mt c_owner_of hr (by decide) (pv 2) (pa_cons (pv 1) pa_nil)) (pa_cons (pv 3) pa_nil)))))))))), ?_⟩
    have ho := o.obj
    obtain ⟨M1, ob, bk⟩ := o.board
    have hb := ob.obj
    obtain ⟨M2, ow, bw⟩ := o.watch
    have how := ow.ext _ _ ow.wk.ob
    refine ⟨_, rfl, _, _, _, _, _, rfl, ho, T.cl_House, T.t_House_board, rfl, ?_⟩
    refine ⟨_, rfl, _, _, _, _, _, rfl, ho, T.cl_House, T.t_House_watch, rfl, X.W.wo, X.W.dw, _, rfl, how, rfl, _, rfl, _, rfl, X.B.bo, X.B.db, _, rfl, hb, rfl, X.B, F.S, K0, h.bo, M ++ M1, rfl, ob, X.W, F.ds, K0, h.wd, M ++ M2, l.name, h.bo.tk, rfl, ow, ?_⟩
    refine ⟨_, rfl, X.B.bo, X.B.db, _, rfl, hb, rfl, _, rfl, X.B, F.S, l, K0, h.bo, M ++ M1, rfl, ob, hl, _, rfl, X.B.bo, X.B.db, _, rfl, hb, rfl, _, rfl, X.B, F.S, l, K0, h.bo, M ++ M1, rfl, ob, hl, _, rfl, X.B.bo, X.B.db, _, rfl, hb, rfl, _, rfl, X.B, F.S, l, K0, h.bo, M ++ M1, rfl, ob, hl, small8 (by simp), fun t ht => ?_⟩
    have g1 : Same H (upd H t (.tup [.bl (!h.bo.dis l.name), .bl (h.bo.rung l.name && l.lvl), .bl (waitsB h.bo l)])) := same_new (Same.refl H) ht
    have ob2 := ob.grow g1
    have hb2 := ob2.obj
    refine ⟨_, rfl, t, _, rfl, .inl (t_of upd_same), _, rfl, X.B.bo, X.B.db, _, rfl, hb2, rfl, _, rfl, X.B, F.S, l, K0, h.bo, M ++ M1, rfl, ob2, hl, _, rfl, X.B.bo, X.B.db, _, rfl, hb2, rfl, _, rfl, X.B, F.S, l, K0, h.bo, M ++ M1, rfl, ob2, hl, _, rfl, small8 (by simp), fun a ha => ?_⟩
    exact q a _ (same_new g1 ha) (none_of g1 ha) upd_same
abbrev N_House_ring : List Str := ["self", "line"]
theorem sc_House_ring : FnScope N_House_ring ["self", "line"] (C8.fnScope s_House_ring) := C8.fnScope_by (by decide +kernel)
theorem ok_House_ring {fd : FuncData} (T : Txt K mg) (F : FunD K "ring" "House.ring" (C8.fnArgs s_House_ring) (C8.fnBody s_House_ring) (C8.fnScope s_House_ring) [] [] (He.ma K (aC "House" K) "ring") fd) (c_hb_ring : C8.Met P w K mg base 6 (aC "HouseBoard" K) "ring" (sp_HouseBoard_ring K) []) :
    C8.Met P w K mg base 7 (aC "House" K) "ring" (sp_House_ring K) [] := by
  refine C8.met0 T.cl_House T.m_House_ring (fun_c8 F) (F.bindsN fun _ _ _ _ _ _ us hl => match us, hl with | [_, _], _ => rfl) sc_House_ring (fun vs H Q E h => ?_) (fun cdv A outer s H vs Q E hr h => ?_)
  · obtain ⟨_, _, _, _, _, _, rfl, _⟩ := h
    rfl
  · have nd := sc_House_ring.nd
    have hu := hu_of hr
    obtain ⟨X, F, K0, h, M, l, rfl, o, hl, hr0, q⟩ := h
    refine ⟨_, (pss_one (ps_ret (C8.pe_mt c_hb_ring hr (by decide) (pe_fld (pv 0) rfl) (pa_cons (pv 1) pa_nil)))), ?_⟩
    have ho := o.obj
    obtain ⟨M1, ob, bk⟩ := o.board
    have hb := ob.obj
    exact ⟨_, rfl, _, _, _, _, _, rfl, ho, T.cl_House, T.t_House_board, rfl, X.B.bo, X.B.db, _, rfl, hb, rfl, _, rfl, X.B, F.S, l, K0, h.bo, M ++ M1, rfl, ob, hl, hr0, fun K1 H1 s ob1 => q K1 H1 s (bk K1 H1 _ M s ob1)⟩
abbrev N_House_quiet : List Str := ["self", "line"]
theorem sc_House_quiet : FnScope N_House_quiet ["self", "line"] (C8.fnScope s_House_quiet) := C8.fnScope_by (by decide +kernel)
theorem ok_House_quiet {fd : FuncData} (T : Txt K mg) (F : FunD K "quiet" "House.quiet" (C8.fnArgs s_House_quiet) (C8.fnBody s_House_quiet) (C8.fnScope s_House_quiet) [] [] (He.ma K (aC "House" K) "quiet") fd) (c_hb_quiet : C8.Met P w K mg base 7 (aC "HouseBoard" K) "quiet" (sp_HouseBoard_quiet K) []) :
    C8.Met P w K mg base 9 (aC "House" K) "quiet" (sp_House_quiet K) [] := by
  refine C8.met0 T.cl_House T.m_House_quiet (fun_c8 F) (F.bindsN fun _ _ _ _ _ _ us hl => match us, hl with | [_, _], _ => rfl) sc_House_quiet (fun vs H Q E h => ?_) (fun cdv A outer s H vs Q E hr h => ?_)
  · obtain ⟨_, _, _, _, _, _, rfl, _⟩ := h
    rfl
  · have nd := sc_House_quiet.nd
    have hu := hu_of hr
    obtain ⟨X, F, K0, h, M, l, rfl, o, hl, hv, q⟩ := h
    refine ⟨_, (pss_one (ps_ret (C8.pe_mt c_hb_quiet hr (by decide) (pe_fld (pv 0) rfl) (pa_cons (pv 1) pa_nil)))), ?_⟩
    have ho := o.obj
    obtain ⟨M1, ob, bk⟩ := o.board
    have hb := ob.obj
    exact ⟨_, rfl, _, _, _, _, _, rfl, ho, T.cl_House, T.t_House_board, rfl, X.B.bo, X.B.db, _, rfl, hb, rfl, _, rfl, X.B, F.S, l, K0, h.bo, M ++ M1, rfl, ob, hl, hv, fun H1 ob1 => q H1 (bk K0 H1 _ M (Same.refl _) ob1)⟩
abbrev N_House_mask : List Str := ["self", "line"]
theorem sc_House_mask : FnScope N_House_mask ["self", "line"] (C8.fnScope s_House_mask) := C8.fnScope_by (by decide +kernel)
theorem ok_House_mask {fd : FuncData} (T : Txt K mg) (F : FunD K "mask" "House.mask" (C8.fnArgs s_House_mask) (C8.fnBody s_House_mask) (C8.fnScope s_House_mask) [] [] (He.ma K (aC "House" K) "mask") fd) (c_hb_mask : C8.Met P w K mg base 3 (aC "HouseBoard" K) "mask" (sp_Board_mask K) []) :
    C8.Met P w K mg base 4 (aC "House" K) "mask" (sp_House_mask K) [] := by
  refine C8.met0 T.cl_House T.m_House_mask (fun_c8 F) (F.bindsN fun _ _ _ _ _ _ us hl => match us, hl with | [_, _], _ => rfl) sc_House_mask (fun vs H Q E h => ?_) (fun cdv A outer s H vs Q E hr h => ?_)
  · obtain ⟨_, _, _, _, _, _, rfl, _⟩ := h
    rfl
  · have nd := sc_House_mask.nd
    have hu := hu_of hr
    obtain ⟨X, F, K0, h, M, l, rfl, o, hl, q⟩ := h
    refine ⟨_, (pss_one (ps_ret (C8.pe_mt c_hb_mask hr (by decide) (pe_fld (pv 0) rfl) (pa_cons (pv 1) pa_nil)))), ?_⟩
    have ho := o.obj
    obtain ⟨M1, ob, bk⟩ := o.board
    have hb := ob.obj
    exact ⟨_, rfl, _, _, _, _, _, rfl, ho, T.cl_House, T.t_House_board, rfl, X.B.bo, X.B.db, _, rfl, hb, rfl, _, rfl, X.B, F.S, l, K0, h.bo, M ++ M1, rfl, ob, hl, fun H1 ob1 => q H1 (bk K0 H1 _ M (Same.refl _) ob1)⟩
abbrev N_House_unmask : List Str := ["self", "line"]
theorem sc_House_unmask : FnScope N_House_unmask ["self", "line"] (C8.fnScope s_House_unmask) := C8.fnScope_by (by decide +kernel)
theorem ok_House_unmask {fd : FuncData} (T : Txt K mg) (F : FunD K "unmask" "House.unmask" (C8.fnArgs s_House_unmask) (C8.fnBody s_House_unmask) (C8.fnScope s_House_unmask) [] [] (He.ma K (aC "House" K) "unmask") fd) (c_hb_unmask : C8.Met P w K mg base 3 (aC "HouseBoard" K) "unmask" (sp_Board_unmask K) []) :
    C8.Met P w K mg base 4 (aC "House" K) "unmask" (sp_House_unmask K) [] := by
  refine C8.met0 T.cl_House T.m_House_unmask (fun_c8 F) (F.bindsN fun _ _ _ _ _ _ us hl => match us, hl with | [_, _], _ => rfl) sc_House_unmask (fun vs H Q E h => ?_) (fun cdv A outer s H vs Q E hr h => ?_)
  · obtain ⟨_, _, _, _, _, _, rfl, _⟩ := h
    rfl
  · have nd := sc_House_unmask.nd
    have hu := hu_of hr
    obtain ⟨X, F, K0, h, M, l, rfl, o, hl, q⟩ := h
    refine ⟨_, (pss_one (ps_ret (C8.pe_mt c_hb_unmask hr (by decide) (pe_fld (pv 0) rfl) (pa_cons (pv 1) pa_nil)))), ?_⟩
    have ho := o.obj
    obtain ⟨M1, ob, bk⟩ := o.board
    have hb := ob.obj
    exact ⟨_, rfl, _, _, _, _, _, rfl, ho, T.cl_House, T.t_House_board, rfl, X.B.bo, X.B.db, _, rfl, hb, rfl, _, rfl, X.B, F.S, l, K0, h.bo, M ++ M1, rfl, ob, hl, fun H1 ob1 => q H1 (bk K0 H1 _ M (Same.refl _) ob1)⟩
abbrev N_House_set_flag : List Str := ["self", "flag"]
theorem sc_House_set_flag : FnScope N_House_set_flag ["self", "flag"] (C8.fnScope s_House_set_flag) := C8.fnScope_by (by decide +kernel)
theorem ok_House_set_flag {fd : FuncData} (T : Txt K mg) (F : FunD K "set_flag" "House.set_flag" (C8.fnArgs s_House_set_flag) (C8.fnBody s_House_set_flag) (C8.fnScope s_House_set_flag) [] [] (He.ma K (aC "House" K) "set_flag") fd) (c_hb_set_flag : C8.Met P w K mg base 3 (aC "HouseBoard" K) "set_flag" (sp_Board_set_flag K) []) :
    C8.Met P w K mg base 4 (aC "House" K) "set_flag" (sp_House_set_flag K) [] := by
  refine C8.met0 T.cl_House T.m_House_set_flag (fun_c8 F) (F.bindsN fun _ _ _ _ _ _ us hl => match us, hl with | [_, _], _ => rfl) sc_House_set_flag (fun vs H Q E h => ?_) (fun cdv A outer s H vs Q E hr h => ?_)
  · obtain ⟨_, _, _, _, _, _, rfl, _⟩ := h
    rfl
  · have nd := sc_House_set_flag.nd
    have hu := hu_of hr
    obtain ⟨X, F, K0, h, M, f, rfl, o, hf, q⟩ := h
    refine ⟨_, (pss_one (ps_ret (C8.pe_mt c_hb_set_flag hr (by decide) (pe_fld (pv 0) rfl) (pa_cons (pv 1) pa_nil)))), ?_⟩
    have ho := o.obj
    obtain ⟨M1, ob, bk⟩ := o.board
    have hb := ob.obj
    exact ⟨_, rfl, _, _, _, _, _, rfl, ho, T.cl_House, T.t_House_board, rfl, X.B.bo, X.B.db, _, rfl, hb, rfl, _, rfl, X.B, F.S, f, K0, h.bo, M ++ M1, rfl, ob, hf, fun H1 ob1 => q H1 (bk K0 H1 _ M (Same.refl _) ob1)⟩
abbrev N_House_clear_flag : List Str := ["self", "flag"]
theorem sc_House_clear_flag : FnScope N_House_clear_flag ["self", "flag"] (C8.fnScope s_House_clear_flag) := C8.fnScope_by (by decide +kernel)
theorem ok_House_clear_flag {fd : FuncData} (T : Txt K mg) (F : FunD K "clear_flag" "House.clear_flag" (C8.fnArgs s_House_clear_flag) (C8.fnBody s_House_clear_flag) (C8.fnScope s_House_clear_flag) [] [] (He.ma K (aC "House" K) "clear_flag") fd) (c_hb_clear_flag : C8.Met P w K mg base 3 (aC "HouseBoard" K) "clear_flag" (sp_Board_clear_flag K) []) :
    C8.Met P w K mg base 4 (aC "House" K) "clear_flag" (sp_House_clear_flag K) [] := by
  refine C8.met0 T.cl_House T.m_House_clear_flag (fun_c8 F) (F.bindsN fun _ _ _ _ _ _ us hl => match us, hl with | [_, _], _ => rfl) sc_House_clear_flag (fun vs H Q E h => ?_) (fun cdv A outer s H vs Q E hr h => ?_)
  · obtain ⟨_, _, _, _, _, _, rfl, _⟩ := h
    rfl
  · have nd := sc_House_clear_flag.nd
    have hu := hu_of hr
    obtain ⟨X, F, K0, h, M, f, rfl, o, hf, q⟩ := h
    refine ⟨_, (pss_one (ps_ret (C8.pe_mt c_hb_clear_flag hr (by decide) (pe_fld (pv 0) rfl) (pa_cons (pv 1) pa_nil)))), ?_⟩
    have ho := o.obj
    obtain ⟨M1, ob, bk⟩ := o.board
    have hb := ob.obj
    exact ⟨_, rfl, _, _, _, _, _, rfl, ho, T.cl_House, T.t_House_board, rfl, X.B.bo, X.B.db, _, rfl, hb, rfl, _, rfl, X.B, F.S, f, K0, h.bo, M ++ M1, rfl, ob, hf, fun H1 ob1 => q H1 (bk K0 H1 _ M (Same.refl _) ob1)⟩
abbrev N_House_call : List Str := ["self", "line"]
theorem sc_House_call : FnScope N_House_call ["self", "line"] (C8.fnScope s_House_call) := C8.fnScope_by (by decide +kernel)
theorem ok_House_call {fd : FuncData} (T : Txt K mg) (F : FunD K "__call__" "House.__call__" (C8.fnArgs s_House_call) (C8.fnBody s_House_call) (C8.fnScope s_House_call) [] [] (He.ma K (aC "House" K) "__call__") fd) (c_check_line : C8.Met P w K mg base 2 (aC "House" K) "_check_line" (sp_House_check_line K) []) (c_line_row : C8.Met P w K mg base 6 (aC "House" K) "_line_row" (sp_House_line_row K) []) :
    C8.Met P w K mg base 7 (aC "House" K) "__call__" (sp_House_call K) [] := by
  refine C8.met0 T.cl_House T.m_House_call (fun_c8 F) (F.bindsN fun _ _ _ _ _ _ us hl => match us, hl with | [_, _], _ => rfl) sc_House_call (fun vs H Q E h => ?_) (fun cdv A outer s H vs Q E hr h => ?_)
  · obtain ⟨_, _, _, _, _, _, rfl, _⟩ := h
    rfl
  · have nd := sc_House_call.nd
    have hu := hu_of hr
    obtain ⟨X, F, K0, h, M, l, rfl, o, hl, q⟩ := h
    refine ⟨_, (pss_cons (ps_expr (C8.pe_mt c_check_line hr (by decide) (pv 0) (pa_cons (pv 1) pa_nil)))
      (pss_one (ps_ret (C8.pe_mt c_line_row hr (by decide) (pv 0) (pa_cons (pv 1) pa_nil))))), ?_⟩
    have ho := o.obj
    refine ⟨_, rfl, X.hs, X.dh, _, rfl, ho, rfl, _, rfl, X, F, K0, h, M, l, rfl, o, hl, ?_⟩
    exact ⟨_, rfl, X.hs, X.dh, _, rfl, ho, rfl, _, rfl, X, F, K0, h, M, l, rfl, o, hl, q⟩
abbrev N_House_len : List Str := ["self"]
theorem sc_House_len : FnScope N_House_len ["self"] (C8.fnScope s_House_len) := C8.fnScope_by (by decide +kernel)
theorem ok_House_len {fd : FuncData} (T : Txt K mg) (F : FunD K "__len__" "House.__len__" (C8.fnArgs s_House_len) (C8.fnBody s_House_len) (C8.fnScope s_House_len) [] [] (He.ma K (aC "House" K) "__len__") fd) (c_running : C8.Met P w K mg base 1 (aC "House" K) "_running" (sp_House_running K) []) :
    C8.Met P w K mg base 2 (aC "House" K) "__len__" (sp_House_len K) [] := by
  refine C8.met0 T.cl_House T.m_House_len (fun_c8 F) (F.bindsN fun _ _ _ _ _ _ us hl => match us, hl with | [_], _ => rfl) sc_House_len (fun vs H Q E h => ?_) (fun cdv A outer s H vs Q E hr h => ?_)
  · obtain ⟨_, _, _, _, _, rfl, _⟩ := h
    rfl
  · have nd := sc_House_len.nd
    have hu := hu_of hr
    obtain ⟨X, F, K0, h, M, rfl, o, q⟩ := h
    refine ⟨_, (pss_one (ps_ret (pe_callB call_len_seq (by rfl) T.n_len (by decide +kernel) (pa_cons (C8.pe_mt0 c_running hr (by decide) (pv 0)) pa_nil)))), ?_⟩
    have ho := o.obj
    refine ⟨_, rfl, X.hs, X.dh, _, rfl, ho, rfl, X, F, K0, h, M, rfl, o, fun p H1 g hp hp1 => ?_⟩
    refine ⟨_, _, rfl, .inl (l_of hp1), ?_⟩
    rw [natV_len]
    exact q H1 g
abbrev N_House_now : List Str := ["self"]
theorem sc_House_now : FnScope N_House_now ["self"] (C8.fnScope s_House_now) := C8.fnScope_by (by decide +kernel)
theorem ok_House_now {fd : FuncData} (T : Txt K mg) (F : FunD K "now" "House.now" (C8.fnArgs s_House_now) (C8.fnBody s_House_now) (C8.fnScope s_House_now) [] [] (prA "House" "now" K) fd) (c_tick_number : C8.Met P w K mg base 1 (aC "HouseBoard" K) "tick_number" (sp_HouseBoard_tick_number K) []) :
    FnP P w K mg base 2 (prA "House" "now" K) (sp_House_now K) := by
  refine fnP_mk (fun_c8 F) (F.bindsN fun _ _ _ _ _ _ us hl => match us, hl with | [_], _ => rfl) sc_House_now (fun vs H Q E h => ?_) (fun cdv A outer s H vs Q E hr h => ?_)
  · obtain ⟨_, _, _, _, _, rfl, _⟩ := h
    rfl
  · have nd := sc_House_now.nd
    have hu := hu_of hr
    obtain ⟨X, F, K0, h, M, rfl, o, q⟩ := h
    refine ⟨_, (pss_one (ps_ret (C8.pe_mt0 c_tick_number hr (by decide) (pe_fld (pv 0) rfl)))), ?_⟩
    have ho := o.obj
    obtain ⟨M1, ob, bk⟩ := o.board
    have hb := ob.obj
    exact ⟨_, rfl, _, _, _, _, _, rfl, ho, T.cl_House, T.t_House_board, rfl, X.B.bo, X.B.db, _, rfl, hb, rfl, X.B, F.S, K0, h.bo, M ++ M1, rfl, ob, q⟩
abbrev N_House_rings : List Str := ["self"]
theorem sc_House_rings : FnScope N_House_rings ["self"] (C8.fnScope s_House_rings) := C8.fnScope_by (by decide +kernel)
theorem ok_House_rings {fd : FuncData} (T : Txt K mg) (F : FunD K "rings" "House.rings" (C8.fnArgs s_House_rings) (C8.fnBody s_House_rings) (C8.fnScope s_House_rings) [] [] (prA "House" "rings" K) fd) (c_ring_rows : C8.Met P w K mg base 1 (aC "HouseBoard" K) "ring_rows" (sp_HouseBoard_ring_rows K) []) :
    FnP P w K mg base 2 (prA "House" "rings" K) (sp_House_rings K) := by
  refine fnP_mk (fun_c8 F) (F.bindsN fun _ _ _ _ _ _ us hl => match us, hl with | [_], _ => rfl) sc_House_rings (fun vs H Q E h => ?_) (fun cdv A outer s H vs Q E hr h => ?_)
  · obtain ⟨_, _, _, _, _, rfl, _⟩ := h
    rfl
  · have nd := sc_House_rings.nd
    have hu := hu_of hr
    obtain ⟨X, F, K0, h, M, rfl, o, hl, q⟩ := h
    refine ⟨_, (pss_one (ps_ret (C8.pe_mt0 c_ring_rows hr (by decide) (pe_fld (pv 0) rfl)))), ?_⟩
    have ho := o.obj
    obtain ⟨M1, ob, bk⟩ := o.board
    have hb := ob.obj
    exact ⟨_, rfl, _, _, _, _, _, rfl, ho, T.cl_House, T.t_House_board, rfl, X.B.bo, X.B.db, _, rfl, hb, rfl, X.B, F.S, K0, h.bo, M ++ M1, rfl, ob, hl, q⟩
abbrev N_House_begin_counts : List Str := ["self"]
theorem sc_House_begin_counts : FnScope N_House_begin_counts ["self"] (C8.fnScope s_House_begin_counts) := C8.fnScope_by (by decide +kernel)
theorem ok_House_begin_counts {fd : FuncData} (T : Txt K mg) (F : FunD K "begin_counts" "House.begin_counts" (C8.fnArgs s_House_begin_counts) (C8.fnBody s_House_begin_counts) (C8.fnScope s_House_begin_counts) [] [] (prA "House" "begin_counts" K) fd) :
    FnP P w K mg base 1 (prA "House" "begin_counts" K) (sp_House_begin_counts K) := by
  refine fnP_mk (fun_c8 F) (F.bindsN fun _ _ _ _ _ _ us hl => match us, hl with | [_], _ => rfl) sc_House_begin_counts (fun vs H Q E h => ?_) (fun cdv A outer s H vs Q E hr h => ?_)
  · obtain ⟨_, _, _, _, _, rfl, _⟩ := h
    rfl
  · have nd := sc_House_begin_counts.nd
    have hu := hu_of hr
    obtain ⟨X, F, K0, h, M, rfl, o, q⟩ := h
    refine ⟨_, (pss_one (ps_ret (pe_callTy call_dictD (by rfl) T.n_dict (by decide +kernel) (pa_cons (pe_fld (pv 0) rfl) pa_nil)))), ?_⟩
    have ho := o.obj
    have cb := o.c_bt
    refine ⟨_, rfl, _, _, _, _, _, rfl, ho, T.cl_House, T.t_House_begin_totals, rfl, ?_⟩
    exact ⟨_, _, rfl, .inl cb, fun p hp => q p _ (same_new (Same.refl H) hp) hp upd_same⟩
abbrev N_House_setup : List Str := ["self"]
theorem sc_House_setup : FnScope N_House_setup ["self"] (C8.fnScope s_House_setup) := C8.fnScope_by (by decide +kernel)
theorem ok_House_setup {fd : FuncData} (T : Txt K mg) (F : FunD K "setup" "House.setup" (C8.fnArgs s_House_setup) (C8.fnBody s_House_setup) (C8.fnScope s_House_setup) [] [] (prA "House" "setup" K) fd) :
    FnP P w K mg base 1 (prA "House" "setup" K) (sp_House_setup K) := by
  refine fnP_mk (fun_c8 F) (F.bindsN fun _ _ _ _ _ _ us hl => match us, hl with | [_], _ => rfl) sc_House_setup (fun vs H Q E h => ?_) (fun cdv A outer s H vs Q E hr h => ?_)
  · obtain ⟨_, _, _, _, _, rfl, _⟩ := h
    rfl
  · have nd := sc_House_setup.nd
    have hu := hu_of hr
    obtain ⟨X, F, K0, h, M, rfl, o, q⟩ := h
    refine ⟨_, (pss_one (ps_ret (pe_fld (pv 0) rfl))), ?_⟩
    have ho := o.obj
    exact ⟨_, rfl, _, _, _, _, _, rfl, ho, T.cl_House, T.t_House_setup, rfl, q⟩
abbrev N_House_routes : List Str := ["self"]
theorem sc_House_routes : FnScope N_House_routes ["self"] (C8.fnScope s_House_routes) := C8.fnScope_by (by decide +kernel)
theorem ok_House_routes {fd : FuncData} (T : Txt K mg) (F : FunD K "routes" "House.routes" (C8.fnArgs s_House_routes) (C8.fnBody s_House_routes) (C8.fnScope s_House_routes) [] [] (prA "House" "routes" K) fd) :
    FnP P w K mg base 1 (prA "House" "routes" K) (sp_House_routes K) := by
  refine fnP_mk (fun_c8 F) (F.bindsN fun _ _ _ _ _ _ us hl => match us, hl with | [_], _ => rfl) sc_House_routes (fun vs H Q E h => ?_) (fun cdv A outer s H vs Q E hr h => ?_)
  · obtain ⟨_, _, _, _, _, rfl, _⟩ := h
    rfl
  · have nd := sc_House_routes.nd
    have hu := hu_of hr
    obtain ⟨X, F, K0, h, M, rfl, o, q⟩ := h
    refine ⟨_, (pss_one (ps_ret (pe_fld (pv 0) rfl))), ?_⟩
    have ho := o.obj
    exact ⟨_, rfl, _, _, _, _, _, rfl, ho, T.cl_House, T.t_House_routes, rfl, q⟩
abbrev N_House_storms : List Str := ["self"]
theorem sc_House_storms : FnScope N_House_storms ["self"] (C8.fnScope s_House_storms) := C8.fnScope_by (by decide +kernel)
theorem ok_House_storms {fd : FuncData} (T : Txt K mg) (F : FunD K "storms" "House.storms" (C8.fnArgs s_House_storms) (C8.fnBody s_House_storms) (C8.fnScope s_House_storms) [] [] (prA "House" "storms" K) fd) :
    FnP P w K mg base 1 (prA "House" "storms" K) (sp_House_storms K) := by
  refine fnP_mk (fun_c8 F) (F.bindsN fun _ _ _ _ _ _ us hl => match us, hl with | [_], _ => rfl) sc_House_storms (fun vs H Q E h => ?_) (fun cdv A outer s H vs Q E hr h => ?_)
  · obtain ⟨_, _, _, _, _, rfl, _⟩ := h
    rfl
  · have nd := sc_House_storms.nd
    have hu := hu_of hr
    obtain ⟨X, F, K0, h, M, rfl, o, q⟩ := h
    refine ⟨_, (pss_one (ps_ret (pe_fld (pv 0) rfl))), ?_⟩
    have ho := o.obj
    exact ⟨_, rfl, _, _, _, _, _, rfl, ho, T.cl_House, T.t_House_storms, rfl, q⟩
end
end Cb

namespace Cb
open PySem PySem.Spec PyProof.Rows L2

def placeH (h : HsD) (n : Str) (p : Nat) : HsD := { h with bo := putB h.bo n (some (p : Nat)), ev := h.ev ++ [.four "place" h.bo.tk n p] }
def placeS (F : HFx) (h : HsD) (l : LineD) : HsD :=
  match heldR F.ds h.wd l.name h.bo.tk with
  | some _ => h
  | none => match chooseR F.S h.bo h.sts (F.rt l.name) (h.tn l.name) with
    | none => h
    | some (p, t) => placeH { h with tn := gset h.tn l.name t } l.name p
def placesH (F : HFx) (h : HsD) (ls : List LineD) : HsD := ls.foldl (placeS F) h
theorem placesH_snoc {F : HFx} {h : HsD} {ls : List LineD} {l : LineD} : placesH F h (ls ++ [l]) = placeS F (placesH F h ls) l := by
  unfold placesH
  rw [List.foldl_append]
  rfl
def freeLs (F : HFx) (h : HsD) : List LineD := (linesO F.S).filter (freeP h.bo)
theorem placeS_tk {F : HFx} {h : HsD} {l : LineD} : (placeS F h l).bo.tk = h.bo.tk := by
  unfold placeS
  split
  · rfl
  · split <;> rfl
theorem placeS_ev {F : HFx} {h : HsD} {l : LineD} : (placeS F h l).ev.length ≤ h.ev.length + 1 := by
  unfold placeS
  split
  · omega
  · split
    · omega
    · simp [placeH]
theorem turnR_lt {stops : List Nat} {sts : List Str} {t p t' : Nat} (h : turnR stops sts t = some (p, t')) (ht : t < stops.length) : t' < stops.length ∧ p ∈ stops := by
  unfold turnR at h
  obtain ⟨i, hi, e⟩ := Option.map_eq_some_iff.mp h
  have hl : 0 < stops.length := by omega
  injection e with e1 e2
  subst e1 e2
  refine ⟨Nat.mod_lt _ hl, ?_⟩
  rw [List.getD_eq_getElem?_getD, List.getElem?_eq_getElem (Nat.mod_lt _ hl)]
  exact List.getElem_mem _
theorem leastL_mem {f : Nat → Nat} {l : List Nat} (h : l ≠ []) : leastL f l ∈ l := by
  have e : ∃ x ∈ l, ∀ y ∈ l, f x ≤ f y := by
    induction l with
    | nil => exact absurd rfl h
    | cons a l ih =>
      cases l with
      | nil => exact ⟨a, by simp, fun y hy => by rw [List.mem_singleton.mp hy]; exact Nat.le_refl _⟩
      | cons b l =>
        obtain ⟨x, hx, hm⟩ := ih (by simp)
        by_cases c : f a ≤ f x
        · exact ⟨a, by simp, fun y hy => by
            rcases List.mem_cons.mp hy with rfl | hy
            · exact Nat.le_refl _
            · exact Nat.le_trans c (hm y hy)⟩
        · exact ⟨x, List.mem_cons_of_mem _ hx, fun y hy => by
            rcases List.mem_cons.mp hy with rfl | hy
            · omega
            · exact hm y hy⟩
  obtain ⟨x, hx, hm⟩ := e
  unfold leastL
  cases e : l.find? fun k => l.all fun j => decide (f k ≤ f j) with
  | none =>
    have z := List.find?_eq_none.mp e x hx
    exact absurd (List.all_eq_true.mpr fun y hy => decide_eq_true (hm y hy)) z
  | some y => exact List.mem_of_find?_eq_some e
theorem chooseR_lt {S : SetD} {b : BdD} {sts : List Str} {r : RtD} {t p t' : Nat} (h : chooseR S b sts r t = some (p, t')) (ht : t < r.stops.length) : t' < r.stops.length ∧ p ∈ r.stops := by
  unfold chooseR at h
  split at h
  · exact turnR_lt h ht
  · split at h
    · cases h
    · rename_i k ks hk
      have sub : ∀ x ∈ k :: ks, x ∈ r.stops := fun x hx => (List.mem_filter.mp (hk ▸ hx)).1
      injection h with h
      injection h with h1 h2
      subst h1 h2
      refine ⟨ht, ?_⟩
      split
      · exact sub k (by simp)
      · exact sub _ (leastL_mem (by simp))
def sp_House_place (K : PySem.W.Frag) : Sp := fun vs H Q _ => ∃ (X : AdH) (F : HFx) (K0 : Hp) (h : HsD) (M : List (Addr × HO)) (l : LineD) (p : Nat), vs = [.ref X.hs, .str l.name, .int (p : Nat)] ∧ OwnH K X F K0 H h M ∧ l ∈ F.S.ls ∧ h.ev.length ≤ 900000 ∧ ∀ K1 H', Same K0 K1 → OwnH K X F K1 H' (placeH h l.name p) M → Q .non H'
def sp_House_place_lines (K : PySem.W.Frag) : Sp := fun vs H Q _ => ∃ (X : AdH) (F : HFx) (K0 : Hp) (h : HsD) (M : List (Addr × HO)), vs = [.ref X.hs] ∧ OwnH K X F K0 H h M ∧ h.ev.length ≤ 800000 ∧ ∀ K1 H', Same K0 K1 → OwnH K X F K1 H' (placesH F h (freeLs F h)) M → Q .non H'
theorem nmsV_at {ls : List LineD} {i : Nat} {v : V} (h : (nmsV ls)[i]? = some v) : ∃ l, ls[i]? = some l ∧ V.str l.name = v := by
  unfold nmsV at h
  rw [List.getElem?_map] at h
  exact Option.map_eq_some_iff.mp h

section
variable {P : Program} {w : World} {K : PySem.W.Frag} {mg : Str → Option Value} {base : Heap}

abbrev N_House_place : List Str := ["self", "line", "processor"]
theorem sc_House_place : FnScope N_House_place ["self", "line", "processor"] (C8.fnScope s_House_place) := C8.fnScope_by (by decide +kernel)
theorem ok_House_place {fd : FuncData} (T : Txt K mg) (F : FunD K "_place" "House._place" (C8.fnArgs s_House_place) (C8.fnBody s_House_place) (C8.fnScope s_House_place) [] [] (He.ma K (aC "House" K) "_place") fd) (c_put_on : C8.Met P w K mg base 1 (aC "HouseBoard" K) "put_on" (sp_HouseBoard_put_on K) []) (c_tick_number : C8.Met P w K mg base 1 (aC "HouseBoard" K) "tick_number" (sp_HouseBoard_tick_number K) []) :
    C8.Met P w K mg base 2 (aC "House" K) "_place" (sp_House_place K) [] := by
  refine C8.met0 T.cl_House T.m_House_place (fun_c8 F) (F.bindsN fun _ _ _ _ _ _ us hl => match us, hl with | [_, _, _], _ => rfl) sc_House_place (fun vs H Q E h => ?_) (fun cdv A outer s H vs Q E hr h => ?_)
  · obtain ⟨_, _, _, _, _, _, _, rfl, _⟩ := h
    rfl
  · have nd := sc_House_place.nd
    have hu := hu_of hr
    obtain ⟨X, F, K0, h, M, l, p, rfl, o, hl, hev, q⟩ := h
    refine ⟨_, (pss_cons (ps_expr (C8.pe_mt c_put_on hr (by decide) (pe_fld (pv 0) rfl) (pa_cons (pv 1) (pa_cons (pv 2) pa_nil))))
      (pss_one (ps_expr (pe_bm PySem.F.plainAttrs_list PySem.F.slot_list_append PySem.F.type_list_append mt_append (pe_fld (pv 0) rfl) (pa_cons (pe_tup (pa_cons pe_str (pa_cons (C8.pe_mt0 c_tick_number hr (by decide) (pe_fld (pv 0) rfl)) (pa_cons (pv 1) (pa_cons (pv 2) pa_nil))))) pa_nil))))), ?_⟩
    have ho := o.obj
    obtain ⟨M1, ob, bk⟩ := o.board
    have hb := ob.obj
    refine ⟨_, rfl, _, _, _, _, _, rfl, ho, T.cl_House, T.t_House_board, rfl, X.B.bo, X.B.db, _, rfl, hb, rfl, _, rfl, _, rfl, X.B, F.S, l, (p : Nat), K0, h.bo, M ++ M1, rfl, ob, hl, fun H1 ob1 => ?_⟩
    have o1 := bk K0 H1 _ M (Same.refl _) ob1
    have ho1 := o1.obj
    obtain ⟨evv, ce, pe⟩ := o1.c_ev
    obtain ⟨M2, ob2, bk2⟩ := o1.board
    have hb2 := ob2.obj
    have hel := pe.length
    refine ⟨_, rfl, _, _, _, _, _, rfl, ho1, T.cl_House, T.t_House_events, rfl, .inl ⟨rfl, _, .inl (.inl ce)⟩, _, rfl, _, _, _, _, _, rfl, ho1, T.cl_House, T.t_House_board, rfl, X.B.bo, X.B.db, _, rfl, hb2, rfl, X.B, F.S, K0, _, M ++ M2, rfl, ob2, _, rfl, _, rfl, small8 (by simp), fun t ht => ?_⟩
    obtain ⟨o3, s3⟩ := o1.add_ev (e := .four "place" h.bo.tk l.name p) ht ce
    exact ⟨_, _, _, rfl, rfl, same_new (Same.refl _) ht _ _ ce, sm6 (by rw [hel]; show h.ev.length ≤ _; omega), q _ _ s3 o3⟩
abbrev N_House_place_lines : List Str := ["self", "now", "line", "processor"]
theorem sc_House_place_lines : FnScope N_House_place_lines ["self"] (C8.fnScope s_House_place_lines) := C8.fnScope_by (by decide +kernel)
theorem ok_House_place_lines {fd : FuncData} (T : Txt K mg) (F : FunD K "_place_lines" "House._place_lines" (C8.fnArgs s_House_place_lines) (C8.fnBody s_House_place_lines) (C8.fnScope s_House_place_lines) [] [] (He.ma K (aC "House" K) "_place_lines") fd) (c_tick_number : C8.Met P w K mg base 1 (aC "HouseBoard" K) "tick_number" (sp_HouseBoard_tick_number K) []) (c_unplaced_lines : C8.Met P w K mg base 8 (aC "HouseBoard" K) "unplaced_lines" (sp_HouseBoard_unplaced_lines K) []) (c_held_until : C8.Met P w K mg base 1 (aC "StormWatch" K) "held_until" (sp_StormWatch_held_until K) []) (c_choose : C8.Met P w K mg base 5 (aC "Router" K) "choose" (sp_Router_choose K) []) (c_place : C8.Met P w K mg base 2 (aC "House" K) "_place" (sp_House_place K) []) :
    C8.Met P w K mg base 9 (aC "House" K) "_place_lines" (sp_House_place_lines K) [] := by
  refine C8.met0 T.cl_House T.m_House_place_lines (fun_c8 F) (F.bindsN fun _ _ _ _ _ _ us hl => match us, hl with | [_], _ => rfl) sc_House_place_lines (fun vs H Q E h => ?_) (fun cdv A outer s H vs Q E hr h => ?_)
  · obtain ⟨_, _, _, _, _, rfl, _⟩ := h
    rfl
  · have nd := sc_House_place_lines.nd
    have hu := hu_of hr
    obtain ⟨X, F, K0, h, M, rfl, o, hev, q⟩ := h
    refine ⟨_, (pss_cons (ps_set (i := 1) nd rfl (Or.inl rfl) (C8.pe_mt0 c_tick_number hr (by decide) (pe_fld (pv 0) rfl)))
      (pss_one (ps_for PassesOwn.never rfl (pi_list (C8.pe_mt0 c_unplaced_lines hr (by decide) (pe_fld (pv 0) rfl))) (pg_name (i := 2) nd rfl (Or.inl rfl)) (pss_one (ps_if (pt_cmpR op_isN (C8.pe_mt c_held_until hr (by decide) (pe_fld (pv 0) rfl) (pa_cons (pv 2) (pa_cons (pv 1) pa_nil))) pe_non (nomark _)) (pss_cons (ps_set (i := 3) nd rfl (Or.inl rfl) (C8.pe_mt c_choose hr (by decide) (pe_fld (pv 0) rfl) (pa_cons (pv 2) (pa_cons (pe_fld (pv 0) rfl) (pa_cons (pe_fld (pv 0) rfl) pa_nil)))))
      (pss_one (ps_if (pt_cmpR op_notN (pv 3) pe_non (nomark _)) (pss_one (ps_expr (C8.pe_mt c_place hr (by decide) (pv 0) (pa_cons (pv 2) (pa_cons (pv 3) pa_nil))))) pss_nil))) pss_nil))))), ?_⟩
    have ho := o.obj
    obtain ⟨M1, ob, bk⟩ := o.board
    have hb := ob.obj
    refine ⟨_, rfl, _, _, _, _, _, rfl, ho, T.cl_House, T.t_House_board, rfl, X.B.bo, X.B.db, _, rfl, hb, rfl, X.B, F.S, K0, h.bo, M ++ M1, rfl, ob, ?_⟩
    refine ⟨_, rfl, _, _, _, _, _, rfl, ho, T.cl_House, T.t_House_board, rfl, X.B.bo, X.B.db, _, rfl, hb, rfl, X.B, F.S, K0, h.bo, M ++ M1, rfl, ob, fun D H1 g1 hD hD1 => ?_⟩
    have o1 := o.own' g1 hD hD1
    have el : (linesO F.S).filter (freeP h.bo) = freeLs F h := rfl
    rw [el] at o1 hD1
    have hll : (freeLs F h).length ≤ 12 := Nat.le_trans (List.length_filter_le _ _) (linesO_len o.ok)
    have hlm : ∀ l ∈ freeLs F h, l ∈ F.S.ls := fun l m => linesO_mem o.ok (List.mem_filter.mp m).1
    generalize hls : freeLs F h = ls at o1 hD1 hll hlm q
    refine ⟨_, rfl, ⟨_, l_of hD1⟩, ?_⟩
    refine for_it (walk_list (xs := nmsV ls)) (fun i σ H' => ∃ y2 y3 K', σ = [some (.ref X.hs), some (.int h.bo.tk), y2, y3] ∧ Same K0 K' ∧ OwnH K X F K' H' (placesH F h (ls.take i)) ((D, .lst (nmsV ls)) :: M) ∧ (placesH F h (ls.take i)).bo.tk = h.bo.tk ∧ (placesH F h (ls.take i)).ev.length ≤ h.ev.length + i) ⟨_, _, K0, rfl, Same.refl _, o1, rfl, Nat.le_refl _⟩ ?_ ?_ ?_
    · rintro i σ H' _ ⟨y2, y3, K', _, _, o2, _⟩
      exact l_of o2.fr
    · rintro i v σ H2 H3 hi ⟨y2, y3, K', rfl, g2, o2, htk, hle⟩ ⟨rfl, e2⟩
      obtain ⟨l, hl, rfl⟩ := nmsV_at e2
      have hlS := hlm l (List.mem_of_getElem? hl)
      have hi12 : i < 12 := by
        have := (List.getElem?_eq_some_iff.mp hl).1
        omega
      have hn := o2.ok.mem hlS
      rw [take_snoc hl, placesH_snoc]
      generalize placesH F h (ls.take i) = h' at o2 htk hle
      have ho2 := o2.obj
      obtain ⟨M2, ow, bw⟩ := o2.watch
      have how := ow.ext _ _ ow.wk.ob
      have ptk := placeS_tk (F := F) (h := h') (l := l)
      have pev := placeS_ev (F := F) (h := h') (l := l)
      refine ⟨_, rfl, _, _, _, _, _, rfl, ho2, T.cl_House, T.t_House_watch, rfl, X.W.wo, X.W.dw, _, rfl, how, rfl, _, rfl, _, rfl, X.W, F.ds, K', h'.wd, _, l.name, h.bo.tk, rfl, ow, ?_⟩
      refine ⟨rfl, decide (optV (heldR F.ds h'.wd l.name h.bo.tk) = V.non), rfl, ?_⟩
      cases hh : heldR F.ds h'.wd l.name h.bo.tk with
      | some u =>
        refine iteF ?_
        have e : placeS F h' l = h' := by unfold placeS; rw [htk, hh]
        rw [e]
        exact ⟨_, _, K', rfl, g2, o2, htk, by omega⟩
      | none =>
        refine iteT ?_
        obtain ⟨M3, tl, ob3, bk3⟩ := o2.turns
        have hro := o2.ext _ _ o2.fx.ro.ob
        have rk := o2.fx.rk l.name hn
        have hsl := o2.sl
        refine ⟨_, rfl, _, _, _, _, _, rfl, ho2, T.cl_House, T.t_House_router, rfl, X.R.ro, X.R.dr, _, rfl, hro, rfl, _, rfl, _, rfl, _, _, _, _, _, rfl, ho2, T.cl_House, T.t_House_states, rfl, _, rfl, _, _, _, _, _, rfl, ho2, T.cl_House, T.t_House_board, rfl, X.B, X.R, F.S, F.rt, h'.tn, h'.sts, X.sa, l.name, K', h'.bo, _, rfl, o2.fx.ro, hn, by rw [hsl]; exact rk, tl _ hn, ob3, fun p t H4 ec ob4 => ?_, fun H4 ec ob4 => ?_⟩
        · obtain ⟨t1, pm⟩ := chooseR_lt ec (tl _ hn)
          have o4 := bk3 H4 (gset h'.tn l.name t) ((D, .lst (nmsV ls)) :: M) (fun m hm => by
            unfold gset
            split
            · next e => rw [e]; exact t1
            · exact tl m hm) ob4
          have e : placeS F h' l = placeH { h' with tn := gset h'.tn l.name t } l.name p := by
            unfold placeS
            rw [htk, hh]
            dsimp only
            rw [ec]
          rw [e] at ptk pev ⊢
          refine ⟨_, rfl, rfl, true, rfl, iteT ?_⟩
          exact ⟨_, rfl, X.hs, X.dh, _, rfl, o4.obj, rfl, _, rfl, _, rfl, X, F, K', _, _, l, p, rfl, o4, hlS, (by show h'.ev.length ≤ _; omega), fun K5 H5 s5 o5 => ⟨_, _, K5, rfl, Same.tr g2 s5, o5, by rw [ptk]; exact htk, by omega⟩⟩
        · have o4 : OwnH K X F K' H4 h' ((D, .lst (nmsV ls)) :: M) := bk3 H4 h'.tn ((D, .lst (nmsV ls)) :: M) tl ob4
          have e : placeS F h' l = h' := by
            unfold placeS
            rw [htk, hh]
            dsimp only
            rw [ec]
          rw [e]
          refine ⟨_, rfl, rfl, false, rfl, iteF ?_⟩
          exact ⟨_, _, K', rfl, g2, o4, htk, by omega⟩
    rintro σ H2 ⟨y2, y3, K', rfl, g2, o2, htk, hle⟩
    rw [List.take_of_length_le (by simp [nmsV])] at o2
    exact q K' H2 g2 o2.tail
end
end Cb

namespace Cb
open PySem PySem.Spec PyProof.Rows L2

def noteH (F : HFx) (h : HsD) (p : Nat) (e : Ev) : HsD :=
  let h1 : HsD := { h with ev := h.ev ++ [.four e.word h.bo.tk e.name p] }
  match e with
  | .fin _ => h1
  | .dne n => { h1 with dt := nset h.dt n (h.dt n + 1) }
  | .bgn l =>
    let h2 : HsD := { h1 with bt := nset h.bt l.name (h.bt l.name + 1), wd := (noteR F.ds h.wd l.name h.bo.tk).2 }
    if (noteR F.ds h.wd l.name h.bo.tk).1 = true then { h2 with ev := h2.ev ++ [.held h.bo.tk l.name] } else h2
def notesH (F : HFx) (h : HsD) (p : Nat) (es : List Ev) : HsD := es.foldl (fun h e => noteH F h p e) h
theorem notesH_snoc {F : HFx} {h : HsD} {p : Nat} {es : List Ev} {e : Ev} : notesH F h p (es ++ [e]) = noteH F (notesH F h p es) p e := by
  unfold notesH
  rw [List.foldl_append]
  rfl
def EvIn (S : SetD) : Ev → Prop
  | .bgn l => l ∈ S.ls
  | .fin l => l ∈ S.ls
  | .dne n => n ∈ wkN S
theorem noteR_cnt {ds : List StormD} {wd : WdD} {n : Str} {t : Int} (m : Str) : ((noteR ds wd n t).2.cnt m).length ≤ (wd.cnt m).length + 1 := by
  unfold noteR
  cases e : ds.find? fun d => decide (d.name = n) with
  | none => exact Nat.le_succ _
  | some d =>
    have hd : d.name = n := of_decide_eq_true (List.find?_some (p := fun d : StormD => decide (d.name = n)) e)
    have z : (gset wd.cnt n (noteC d wd t) m).length ≤ (wd.cnt m).length + 1 := by
      unfold gset
      split
      · next e =>
        unfold noteC stillR
        rw [List.length_append, hd, e]
        have := List.length_filter_le (fun b => decide (t - d.window < b)) (wd.cnt n)
        simp
        omega
      · omega
    dsimp only
    split <;> exact z
structure NtLe (h h' : HsD) (i : Nat) : Prop where
  tk : h'.bo = h.bo
  ps : h'.ps = h.ps
  sts : h'.sts = h.sts
  ev : h'.ev.length ≤ h.ev.length + 2 * i
  cn : ∀ m, (h'.wd.cnt m).length ≤ (h.wd.cnt m).length + i
theorem noteH_le {F : HFx} {h h' : HsD} {p i : Nat} {e : Ev} (n : NtLe h h' i) : NtLe h (noteH F h' p e) (i + 1) := by
  cases e with
  | fin l => exact ⟨n.tk, n.ps, n.sts, by have := n.ev; simp [noteH]; omega, fun m => Nat.le_succ_of_le (n.cn m)⟩
  | dne w => exact ⟨n.tk, n.ps, n.sts, by have := n.ev; simp [noteH]; omega, fun m => Nat.le_succ_of_le (n.cn m)⟩
  | bgn l =>
    have z : ∀ m, ((noteR F.ds h'.wd l.name h'.bo.tk).2.cnt m).length ≤ (h.wd.cnt m).length + (i + 1) := fun m => by
      have := noteR_cnt (ds := F.ds) (wd := h'.wd) (n := l.name) (t := h'.bo.tk) m
      have := n.cn m
      omega
    unfold noteH
    dsimp only
    split
    · exact ⟨n.tk, n.ps, n.sts, by have := n.ev; simp; omega, z⟩
    · exact ⟨n.tk, n.ps, n.sts, by have := n.ev; simp; omega, z⟩
theorem notesH_le {F : HFx} {h : HsD} {p : Nat} : ∀ {es : List Ev}, NtLe h (notesH F h p es) es.length := by
  intro es
  induction es using List.reverseRecOn' with
  | nil => exact ⟨rfl, rfl, rfl, Nat.le_refl _, fun _ => Nat.le_refl _⟩
  | snoc l x ih =>
    rw [notesH_snoc, List.length_append]
    exact noteH_le ih
def sp_House_note_events (K : PySem.W.Frag) : Sp := fun vs H Q _ => ∃ (X : AdH) (F : HFx) (K0 : Hp) (h : HsD) (M : List (Addr × HO)) (p : Nat) (ea : Addr) (evs : List V) (es : List Ev), vs = [.ref X.hs, .int (p : Nat), .ref ea] ∧ OwnH K X F K0 H h M ∧ (∀ K' H' h', Same K0 K' → OwnH K X F K' H' h' M → H' ea = some (.lst evs)) ∧ Paired (EvAt K K0) evs es ∧ (∀ e ∈ es, EvIn F.S e) ∧ es.length ≤ 1000 ∧ h.ev.length ≤ 800000 ∧ (∀ m, (h.wd.cnt m).length ≤ 800000) ∧
  ∀ K1 H', Same K0 K1 → OwnH K X F K1 H' (notesH F h p es) M → Q .non H'

section
variable {P : Program} {w : World} {K : PySem.W.Frag} {mg : Str → Option Value} {base : Heap}

abbrev N_House_note_events : List Str := ["self", "processor", "events", "now", "word", "what"]
theorem sc_House_note_events : FnScope N_House_note_events ["self", "processor", "events"] (C8.fnScope s_House_note_events) := C8.fnScope_by (by decide +kernel)
theorem ok_House_note_events {fd : FuncData} (T : Txt K mg) (F : FunD K "_note_events" "House._note_events" (C8.fnArgs s_House_note_events) (C8.fnBody s_House_note_events) (C8.fnScope s_House_note_events) [] [] (He.ma K (aC "House" K) "_note_events") fd) (c_tick_number : C8.Met P w K mg base 1 (aC "HouseBoard" K) "tick_number" (sp_HouseBoard_tick_number K) []) (c_note_begin : C8.Met P w K mg base 2 (aC "StormWatch" K) "note_begin" (sp_StormWatch_note_begin K) []) :
    C8.Met P w K mg base 3 (aC "House" K) "_note_events" (sp_House_note_events K) [] := by
  refine C8.met0 T.cl_House T.m_House_note_events (fun_c8 F) (F.bindsN fun _ _ _ _ _ _ us hl => match us, hl with | [_, _, _], _ => rfl) sc_House_note_events (fun vs H Q E h => ?_) (fun cdv A outer s H vs Q E hr h => ?_)
  · obtain ⟨_, _, _, _, _, _, _, _, _, rfl, _⟩ := h
    rfl
  · have nd := sc_House_note_events.nd
    have hu := hu_of hr
    obtain ⟨X, F, K0, h, M, p, ea, evs, es, rfl, o, hlk, pe, hin, hes, hev, hcn, q⟩ := h
    refine ⟨_, (pss_cons (ps_set (i := 3) nd rfl (Or.inl rfl) (C8.pe_mt0 c_tick_number hr (by decide) (pe_fld (pv 0) rfl)))
      (pss_one (ps_for PassesOwn.never rfl (pi_list (pv 2)) (pg_tup rfl (pgs_cons (pg_name (i := 4) nd rfl (Or.inl rfl)) (pgs_cons (pg_name (i := 5) nd rfl (Or.inl rfl)) pgs_nil))) (pss_cons (ps_expr (pe_bm PySem.F.plainAttrs_list PySem.F.slot_list_append PySem.F.type_list_append mt_append (pe_fld (pv 0) rfl) (pa_cons (pe_tup (pa_cons (pv 4) (pa_cons (pv 3) (pa_cons (pv 5) (pa_cons (pv 1) pa_nil))))) pa_nil)))
      (pss_one (ps_if (pt_cmpR op_eq (pv 4) pe_str (nomark _)) (pss_one (ps_daug hu (pe_fld (pv 0) rfl) (pv 5) pe_int in_add (fun _ _ _ => rfl))) (pss_one (ps_if (pt_cmpR op_eq (pv 4) pe_str (nomark _)) (pss_cons (ps_daug hu (pe_fld (pv 0) rfl) (pv 5) pe_int in_add (fun _ _ _ => rfl))
      (pss_one (ps_if (pt_val (C8.pe_mt c_note_begin hr (by decide) (pe_fld (pv 0) rfl) (pa_cons (pv 5) (pa_cons (pv 3) pa_nil)))) (pss_one (ps_expr (pe_bm PySem.F.plainAttrs_list PySem.F.slot_list_append PySem.F.type_list_append mt_append (pe_fld (pv 0) rfl) (pa_cons (pe_tup (pa_cons pe_str (pa_cons (pv 3) (pa_cons (pv 5) pa_nil)))) pa_nil)))) pss_nil))) pss_nil)))))))), ?_⟩
    have ho := o.obj
    obtain ⟨M1, ob, bk⟩ := o.board
    have hb := ob.obj
    have hel := pe.length
    refine ⟨_, rfl, _, _, _, _, _, rfl, ho, T.cl_House, T.t_House_board, rfl, X.B.bo, X.B.db, _, rfl, hb, rfl, X.B, F.S, K0, h.bo, _, rfl, ob, ?_⟩
    refine ⟨_, rfl, _, rfl, ⟨_, l_of (hlk K0 H h (Same.refl _) o)⟩, ?_⟩
    refine for_it (walk_list (xs := evs)) (fun i σ H' => ∃ y4 y5 K', σ = [some (.ref X.hs), some (.int (p : Nat)), some (.ref ea), some (.int h.bo.tk), y4, y5] ∧ Same K0 K' ∧ OwnH K X F K' H' (notesH F h p (es.take i)) M) ⟨_, _, K0, rfl, Same.refl _, o⟩ ?_ ?_ ?_
    · rintro i σ H' _ ⟨y4, y5, K', _, g2, o2⟩
      exact l_of (hlk K' H' _ g2 o2)
    · rintro i v σ H2 H3 hi ⟨y4, y5, K', rfl, g2, o2⟩ ⟨rfl, e2⟩
      obtain ⟨e, he, hE⟩ := pget pe e2
      obtain ⟨t0, rfl, ht0⟩ := EvAt.up (Same.tr g2 o2.ext) hE
      have hie := hin e (List.mem_of_getElem? he)
      have hil : i < es.length := by omega
      rw [take_snoc he, notesH_snoc]
      have nl := notesH_le (F := F) (h := h) (p := p) (es := es.take i)
      have htl : (es.take i).length = i := by rw [List.length_take]; omega
      rw [htl] at nl
      generalize notesH F h p (es.take i) = h' at o2 nl
      have htk : h'.bo.tk = h.bo.tk := by rw [nl.tk]
      have hev2 := nl.ev
      have ho2 := o2.obj
      obtain ⟨evv, ce, pev⟩ := o2.c_ev
      have hlv := pev.length
      refine ⟨_, _, rfl, ht0, rfl, _, _, rfl, _, _, rfl, rfl, ?_⟩
      refine ⟨_, rfl, _, _, _, _, _, rfl, ho2, T.cl_House, T.t_House_events, rfl, .inl ⟨rfl, _, .inl (.inl ce)⟩, _, rfl, _, rfl, _, rfl, _, rfl, small8 (by simp), fun t ht => ?_⟩
      obtain ⟨o3, s3⟩ := o2.add_ev (e := .four e.word h.bo.tk e.name p) ht ce
      refine ⟨_, _, _, rfl, rfl, same_new (Same.refl _) ht _ _ ce, sm6 (by rw [hlv]; omega), ?_⟩
      have ho3 := o3.obj
      cases e with
      | fin l =>
        refine ⟨_, rfl, rfl, false, rfl, iteF ?_⟩
        refine ⟨_, rfl, rfl, false, rfl, iteF ?_⟩
        refine ⟨_, _, _, rfl, Same.tr g2 s3, ?_⟩
        unfold noteH
        rw [htk]
        exact o3
      | dne w =>
        refine ⟨_, rfl, rfl, true, rfl, iteT ?_⟩
        have hw : w ∈ wkN F.S := hie
        have dg : DGet _ X.dt (kV (.inr w)) (some (.int (h'.dt w))) := md_at hw ▸ DGet.k (k := .inr w) o3.c_dt
        have dp := DPut.k (k := .inr w) (v := .int (h'.dt w + 1)) o3.c_dt (sml (m := 12) (by have := o.ok.okw.le; simp [md, wkN]; omega) (by decide))
        rw [putK_md hw] at dp
        refine ⟨_, rfl, _, _, _, _, _, rfl, ho3, T.cl_House, T.t_House_done_totals, rfl, _, rfl, _, _, rfl, dg, ?_⟩
        refine ⟨_, _, rfl, rfl, _, dp, ?_⟩
        refine ⟨_, _, _, rfl, Same.tr g2 s3, ?_⟩
        unfold noteH
        rw [htk]
        exact o3.put_dt
      | bgn l =>
        refine ⟨_, rfl, rfl, false, rfl, iteF ?_⟩
        refine ⟨_, rfl, rfl, true, rfl, iteT ?_⟩
        have hw : l.name ∈ lnN F.S := List.mem_map_of_mem (show l ∈ F.S.ls from hie)
        have dg : DGet _ X.bt (kV (.inr l.name)) (some (.int (h'.bt l.name))) := md_at hw ▸ DGet.k (k := .inr l.name) o3.c_bt
        have dp := DPut.k (k := .inr l.name) (v := .int (h'.bt l.name + 1)) o3.c_bt (sml (m := 12) (by have := o.ok.ok.le; simp [md, lnN]; omega) (by decide))
        rw [putK_md hw] at dp
        refine ⟨_, rfl, _, _, _, _, _, rfl, ho3, T.cl_House, T.t_House_begin_totals, rfl, _, rfl, _, _, rfl, dg, ?_⟩
        refine ⟨_, _, rfl, rfl, _, dp, ?_⟩
        have o4 := o3.put_bt (x := nset h'.bt l.name (h'.bt l.name + 1))
        have ho4 := o4.obj
        obtain ⟨M2, ow, bw⟩ := o4.watch
        have how := ow.ext _ _ ow.wk.ob
        refine ⟨_, rfl, _, _, _, _, _, rfl, ho4, T.cl_House, T.t_House_watch, rfl, X.W.wo, X.W.dw, _, rfl, how, rfl, _, rfl, _, rfl, X.W, F.ds, _, _, _, l.name, h.bo.tk, rfl, ow, fun d _ => ?_, fun K5 H5 s5 ow5 => ?_⟩
        · have := nl.cn d.name
          have := hcn d.name
          show (h'.wd.cnt d.name).length ≤ _
          omega
        have o5 := bw K5 H5 _ _ s5 ow5
        refine ⟨_, rfl, ?_⟩
        unfold noteH
        rw [htk]
        dsimp only
        cases hb : (noteR F.ds h'.wd l.name h.bo.tk).1 with
        | false => exact iteF ⟨_, _, K5, rfl, Same.tr g2 (Same.tr s3 s5), by rw [if_neg (by simp)]; exact o5⟩
        | true =>
          refine iteT ?_
          have ho5 := o5.obj
          obtain ⟨evv2, ce2, pe2⟩ := o5.c_ev
          have hl2 := pe2.length
          refine ⟨_, rfl, _, _, _, _, _, rfl, ho5, T.cl_House, T.t_House_events, rfl, .inl ⟨rfl, _, .inl (.inl ce2)⟩, _, rfl, _, rfl, small8 (by simp), fun t2 ht2 => ?_⟩
          obtain ⟨o6, s6⟩ := o5.add_ev (e := .held h.bo.tk l.name) ht2 ce2
          refine ⟨_, _, _, rfl, rfl, same_new (Same.refl _) ht2 _ _ ce2, sm6 (by rw [hl2]; simp; omega), _, _, _, rfl, Same.tr g2 (Same.tr s3 (Same.tr s5 s6)), ?_⟩
          rw [if_pos rfl]
          exact o6
    rintro σ H2 ⟨y4, y5, K', rfl, g2, o2⟩
    rw [List.take_of_length_le (by omega)] at o2
    exact q K' H2 g2 o2
end
end Cb

namespace Cb
open PySem PySem.Spec PyProof.Rows L2

def rLnK (K : PySem.W.Frag) : List V → Hp → VK → Prop := fun xs H Q => ∃ p ys, xs = [.ref p] ∧ (SqL K H p ys ∨ SqT K H p ys) ∧ Q (.int ys.length) H
theorem fm_one {α β : Type} (f : α → List β) : ∀ (qs : List α) (k : Nat), k < qs.length → ∃ R, ∀ q', ((qs.set k q').flatMap f).Perm (f q' ++ R)
  | a :: l, 0, _ => ⟨l.flatMap f, fun q' => by rw [List.set_cons_zero, List.flatMap_cons]⟩
  | a :: l, k + 1, h => by
    obtain ⟨R, z⟩ := fm_one f l k (by simpa using h)
    refine ⟨f a ++ R, fun q' => ?_⟩
    rw [List.set_cons_succ, List.flatMap_cons]
    exact ((z q').append_left (f a)).trans (List.perm_append_comm_assoc _ _ _)
theorem fm_two {α β : Type} (f : α → List β) : ∀ (qs : List α) (k j : Nat), k < qs.length → j < qs.length → k ≠ j → ∃ R, ∀ q' q2', (((qs.set k q').set j q2').flatMap f).Perm (f q' ++ (f q2' ++ R))
  | a :: l, 0, 0, _, _, h => absurd rfl h
  | a :: l, 0, j + 1, _, h, _ => by
    obtain ⟨R, z⟩ := fm_one f l j (by simpa using h)
    refine ⟨R, fun q' q2' => ?_⟩
    rw [List.set_cons_zero, List.set_cons_succ, List.flatMap_cons]
    exact (z q2').append_left _
  | a :: l, k + 1, 0, h, _, _ => by
    obtain ⟨R, z⟩ := fm_one f l k (by simpa using h)
    refine ⟨R, fun q' q2' => ?_⟩
    rw [List.set_cons_succ, List.set_cons_zero, List.flatMap_cons]
    exact ((z q').append_left _).trans (List.perm_append_comm_assoc _ _ _)
  | a :: l, k + 1, j + 1, h1, h2, ne => by
    obtain ⟨R, z⟩ := fm_two f l k j (by simpa using h1) (by simpa using h2) (fun e => ne (by rw [e]))
    refine ⟨f a ++ R, fun q' q2' => ?_⟩
    rw [List.set_cons_succ, List.set_cons_succ, List.flatMap_cons]
    refine ((z q' q2').append_left (f a)).trans ?_
    refine (List.perm_append_comm_assoc _ _ _).trans (List.Perm.append_left _ ?_)
    exact List.perm_append_comm_assoc _ _ _
theorem set_same {α : Type} {l : List α} {k : Nat} {x : α} (h : l[k]? = some x) : l.set k x = l := by
  refine List.ext_getElem? fun i => ?_
  rw [List.getElem?_set]
  split
  · next e =>
    subst e
    rw [if_pos (List.getElem?_eq_some_iff.mp h).1, h]
  · rfl
section
variable {K : PySem.W.Frag} {X : AdH} {F : HFx} {K0 K1 H H' : Hp} {h h' : HsD} {M M' : List (Addr × HO)}
/-- two processors, to be worked on -/
theorem OwnH.two (o : OwnH K X F K0 H h M) {k j : Nat} (hk : k < F.c) (hj : j < F.c) (ne : k ≠ j) : ∃ P p P2 p2 sv2 rv2 M1, X.prs[k]? = some P.pr ∧ X.prs[j]? = some P2.pr ∧ h.ps[k]? = some p ∧ h.ps[j]? = some p2 ∧
    JobsK K0 P2.rk P2.ln F.S.ws ∧ Paired (CallAt K K0) sv2 p2.stack ∧ Paired (RowAt K K0) rv2 p2.rows ∧ Own K X.B P F.S K0 H h.bo p (layP K X.B P2 p2 sv2 rv2 (M ++ M1)) ∧
    ∀ K1 H' b' P' p' p2' rv2' M', Same K0 K1 → P'.pr = P.pr → p2'.stack = p2.stack → Paired (RowAt K K1) rv2' p2'.rows → Own K X.B P' F.S K1 H' b' p' (layP K X.B P2 p2' sv2 rv2' (M' ++ M1)) → OwnH K X F K1 H' { h with bo := b', ps := (h.ps.set k p').set j p2' } M' := by
  have hl := o.pl
  obtain ⟨g, evv, qs, r, e1, e2, ok, ob⟩ := o.ex
  have hql : qs.length = F.c := by rw [← hl, ← e1, List.length_map]
  obtain ⟨q, hq⟩ : ∃ q, qs[k]? = some q := ⟨_, List.getElem?_eq_getElem (by omega)⟩
  obtain ⟨q2, hq2⟩ : ∃ q, qs[j]? = some q := ⟨_, List.getElem?_eq_getElem (by omega)⟩
  obtain ⟨R, z⟩ := fm_two (PQ.cells K X.B) qs k j (by omega) (by omega) ne
  have e0 : (qs.set k q).set j q2 = qs := by rw [set_same hq, set_same hq2]
  have pm : ∀ (N : List (Addr × HO)) (q' q2' : PQ), (restH X F h g evv ++ (((qs.set k q').set j q2').flatMap (PQ.cells K X.B) ++ N)).Perm (PQ.cells K X.B q' ++ (PQ.cells K X.B q2' ++ (N ++ (R ++ restH X F h g evv)))) := fun N q' q2' => by
    have z2 := ((z q' q2').append_right N).append_left (restH X F h g evv)
    refine z2.trans ?_
    generalize PQ.cells K X.B q' = a
    generalize PQ.cells K X.B q2' = b
    generalize restH X F h g evv = c
    rw [List.append_assoc, List.append_assoc]
    refine (List.perm_append_comm_assoc _ _ _).trans (List.Perm.append_left a ?_)
    refine (List.perm_append_comm_assoc _ _ _).trans (List.Perm.append_left b ?_)
    refine List.perm_append_comm.trans ?_
    rw [List.append_assoc]
    refine (List.perm_append_comm_assoc _ _ _).trans ?_
    exact List.Perm.refl _
  have okq := ok q (List.mem_of_getElem? hq)
  have okq2 := ok q2 (List.mem_of_getElem? hq2)
  refine ⟨q.P, q.p, q2.P, q2.p, q2.sv, q2.rv, R ++ restH X F h g evv, ?_, ?_, ?_, ?_, okq2.jk, okq2.ca, okq2.rw, ⟨okq.jk, q.sv, q.rv, okq.ca, okq.rw, ?_⟩, fun K1 H' b' P' p' p2' rv2' M' s ep es pr2 ow => ?_⟩
  · rw [← e2, List.getElem?_map, hq]; rfl
  · rw [← e2, List.getElem?_map, hq2]; rfl
  · rw [← e1, List.getElem?_map, hq]; rfl
  · rw [← e1, List.getElem?_map, hq2]; rfl
  · have z3 := pm M q q2
    rw [e0] at z3
    exact OwnB.permM ob z3.symm
  · obtain ⟨sv, rv, h1, h2, ob'⟩ := ow.ex
    refine ⟨o.fx.up s, g, evv, (qs.set k ⟨P', p', sv, rv⟩).set j ⟨q2.P, p2', q2.sv, rv2'⟩, ⟨r.sl, r.tl, (r.up s).wg, (r.up s).ev⟩, ?_, ?_, fun q' m => ?_, ?_⟩
    · rw [List.map_set, List.map_set, e1]
    · rw [List.map_set, List.map_set]
      show ((qs.map fun q => q.P.pr).set k P'.pr).set j q2.P.pr = X.prs
      have a1 : X.prs[k]? = some q.P.pr := by rw [← e2, List.getElem?_map, hq]; rfl
      have a2 : X.prs[j]? = some q2.P.pr := by rw [← e2, List.getElem?_map, hq2]; rfl
      rw [ep, e2, set_same a1, set_same a2]
    · rcases List.mem_or_eq_of_mem_set m with m | rfl
      · rcases List.mem_or_eq_of_mem_set m with m | rfl
        · exact (ok q' m).up s
        · exact ⟨ow.fj, h1, h2⟩
      · exact ⟨okq2.jk.up s, by rw [es]; exact okq2.ca.mono fun _ _ z => CallAt.up s z, pr2⟩
    · exact OwnB.permM ob' (pm M' _ _)
theorem OwnH.same (o : OwnH K X F K0 H h M) {k : Nat} (hk : k < F.c) : ∃ P p M1, X.prs[k]? = some P.pr ∧ h.ps[k]? = some p ∧ Own K X.B P F.S K0 H h.bo p (M ++ M1) ∧ ∀ K1 H' M', Same K0 K1 → Own K X.B P F.S K1 H' h.bo p (M' ++ M1) → OwnH K X F K1 H' h M' := by
  obtain ⟨P, p, M1, a, b, ow, bk⟩ := o.proc hk
  refine ⟨P, p, M1, a, b, ow, fun K1 H' M' s ow' => ?_⟩
  have z := bk K1 H' h.bo P p M' s rfl ow'
  rw [set_same b] at z
  exact z
end
def cr (h : HsD) (k : Nat) : Int × Int := (((h.ps.getD k pr0).rows.length : Nat), (k : Nat))
def tgt (F : HFx) (h : HsD) : Nat := match runH F h with
  | [] => 0
  | a :: l => (PySem.W.minOf (cr h a) (l.map (cr h))).2.toNat
def movedE (h : HsD) (j : Nat) (r : Str × Int) : HEv := .four "moved" h.bo.tk r.1 j
def handH (F : HFx) (h : HsD) (k j : Nat) : HsD := { h with ps := (h.ps.set k { h.ps.getD k pr0 with rows := [] }).set j { h.ps.getD j pr0 with rows := handR F.S.ws (h.ps.getD j pr0).rows (h.ps.getD k pr0).rows } }
def moveH (F : HFx) (h : HsD) (k : Nat) : HsD := { handH F h k (tgt F h) with ev := h.ev ++ (h.ps.getD k pr0).rows.map (movedE h (tgt F h)) }
theorem run_lt {F : HFx} {h : HsD} {k : Nat} (m : k ∈ runH F h) : k < F.c := List.mem_range.mp (List.mem_filter.mp m).1
theorem run_on {F : HFx} {h : HsD} {k : Nat} (m : k ∈ runH F h) : isOn h.sts k = true := (List.mem_filter.mp m).2
theorem tgt_mem {F : HFx} {h : HsD} (ne : runH F h ≠ []) : tgt F h ∈ runH F h := by
  unfold tgt
  cases e : runH F h with
  | nil => exact absurd e ne
  | cons a l =>
    have z := minOf_mem (cr h a) (l.map (cr h))
    have z2 : PySem.W.minOf (cr h a) (l.map (cr h)) ∈ (a :: l).map (cr h) := z
    obtain ⟨x, hx, ex⟩ := List.mem_map.mp z2
    dsimp only
    rw [← ex]
    show ((x : Nat) : Int).toNat ∈ _
    rw [Int.toNat_natCast]
    exact hx
def offS (F : HFx) (h : HsD) (k : Nat) : HsD :=
  if h.sts.getD k "off" = "leaving" ∧ (h.ps.getD k pr0).stack = [] then moveH F { h with sts := h.sts.set k "off", ev := h.ev ++ [.off h.bo.tk k] } k else h
def offsH (F : HFx) (h : HsD) (n : Nat) : HsD := (List.range n).foldl (offS F) h
theorem offsH_succ {F : HFx} {h : HsD} {n : Nat} : offsH F h (n + 1) = offS F (offsH F h n) n := by
  unfold offsH
  rw [List.range_succ, List.foldl_append]
  rfl
theorem getD_set {α : Type} {l : List α} {k j : Nat} {x d : α} (h : k < l.length) : (l.set k x).getD j d = if j = k then x else l.getD j d := by
  rw [List.getD_eq_getElem?_getD, List.getElem?_set]
  by_cases e : k = j
  · subst e
    rw [if_pos rfl, if_pos h, if_pos rfl]
    rfl
  · rw [if_neg e, if_neg fun q => e q.symm, List.getD_eq_getElem?_getD]
def sp_House_move_works (K : PySem.W.Frag) : Sp := fun vs H Q _ => ∃ (X : AdH) (F : HFx) (K0 : Hp) (h : HsD) (M : List (Addr × HO)) (k : Nat), vs = [.ref X.hs, .int (k : Nat)] ∧ OwnH K X F K0 H h M ∧ k < F.c ∧ isOn h.sts k = false ∧ runH F h ≠ [] ∧ (∀ p ∈ h.ps, RowsIn F.S.ws p.rows ∧ p.rows.length ≤ 100000) ∧ h.ev.length ≤ 700000 ∧
  ∀ K1 H', Same K0 K1 → OwnH K X F K1 H' (moveH F h k) M → Q .non H'

section
variable {P : Program} {w : World} {K : PySem.W.Frag} {mg : Str → Option Value} {base : Heap}

abbrev N_House_move_works : List Str := ["self", "processor", "rows", "crowds", "at", "_", "target", "work"]
theorem sc_House_move_works : FnScope N_House_move_works ["self", "processor"] (C8.fnScope s_House_move_works) := C8.fnScope_by (by decide +kernel)
theorem ok_House_move_works {fd : FuncData} (T : Txt K mg) (F : FunD K "_move_works" "House._move_works" (C8.fnArgs s_House_move_works) (C8.fnBody s_House_move_works) (C8.fnScope s_House_move_works) [] [] (He.ma K (aC "House" K) "_move_works") fd) (c_work_rows : C8.Met P w K mg base 2 (aC "Processor" K) "work_rows" (sp_Processor_work_rows K) []) (c_running : C8.Met P w K mg base 1 (aC "House" K) "_running" (sp_House_running K) []) (c_hand_over_works : C8.Met P w K mg base 3 (aC "Processor" K) "hand_over_works" (sp_Processor_hand_over_works K) []) (c_tick_number : C8.Met P w K mg base 1 (aC "HouseBoard" K) "tick_number" (sp_HouseBoard_tick_number K) []) :
    C8.Met P w K mg base 5 (aC "House" K) "_move_works" (sp_House_move_works K) [] := by
  refine C8.met0 T.cl_House T.m_House_move_works (fun_c8 F) (F.bindsN fun _ _ _ _ _ _ us hl => match us, hl with | [_, _], _ => rfl) sc_House_move_works (fun vs H Q E h => ?_) (fun cdv A outer s H vs Q E hr h => ?_)
  · obtain ⟨_, _, _, _, _, _, rfl, _⟩ := h
    rfl
  · have nd := sc_House_move_works.nd
    have hu := hu_of hr
    obtain ⟨X, F, K0, h, M, k, rfl, o, hk, hoff, hne, hrw, hev, q⟩ := h
    refine ⟨_, (pss_cons (ps_set (i := 2) nd rfl (Or.inl rfl) (C8.pe_mt0 c_work_rows hr (by decide) (pe_ix ix_list (pe_fld (pv 0) rfl) (pv 1) (fun _ _ => rfl))))
      (pss_cons (ps_setLc (i := 3) (own := [("at", 4)]) rfl nd rfl rfl (sw_true rfl rfl rfl (by decide +kernel)) (pi_list (C8.pe_mt0 c_running hr (by decide) (pv 0))) (blkOk_by (own := [("at", 4)]) (N := N_House_move_works) (sc := (C8.fnScope s_House_move_works)) (by decide +kernel)) (fun _ _ _ _ _ => (pg_name (i := 4) nd rfl (Or.inl rfl))) (fun _ _ _ _ _ => pts_nil) (fun _ _ _ _ _ => (pe_tup (pa_cons (pe_callB (call_len_seq : CallR _ (.builtin "len") (rLnK K)) (by rfl) T.n_len (by decide +kernel) (pa_cons (C8.pe_mt0 c_work_rows hr (by decide) (pe_ix (ix_list : IxR _ (rIxL K)) (pe_fld (pv 0) rfl : PE _ _ (tFld K _ _)) (pv 4) (fun _ _ => rfl))) pa_nil)) (pa_cons (pv 4) pa_nil)))))
      (pss_cons (ps_asg (pe_callB (cr_minII rfl (hu65_of hr)) (by rfl) T.n_min (by decide +kernel) (pa_cons (pv 3) pa_nil)) (pg_tup rfl (pgs_cons (pg_name (i := 5) nd rfl (Or.inl rfl)) (pgs_cons (pg_name (i := 6) nd rfl (Or.inl rfl)) pgs_nil))))
      (pss_cons (ps_expr (C8.pe_mt c_hand_over_works hr (by decide) (pe_ix ix_list (pe_fld (pv 0) rfl) (pv 1) (fun _ _ => rfl)) (pa_cons (pe_ix ix_list (pe_fld (pv 0) rfl) (pv 6) (fun _ _ => rfl)) pa_nil)))
      (pss_one (ps_for PassesOwn.never rfl (pi_list (pv 2)) (pg_tup rfl (pgs_cons (pg_name (i := 7) nd rfl (Or.inl rfl)) (pgs_cons (pg_name (i := 5) nd rfl (Or.inl rfl)) pgs_nil))) (pss_one (ps_expr (pe_bm PySem.F.plainAttrs_list PySem.F.slot_list_append PySem.F.type_list_append mt_append (pe_fld (pv 0) rfl) (pa_cons (pe_tup (pa_cons pe_str (pa_cons (C8.pe_mt0 c_tick_number hr (by decide) (pe_fld (pv 0) rfl)) (pa_cons (pv 7) (pa_cons (pv 6) pa_nil))))) pa_nil)))))))))), ?_⟩
    have ho := o.obj
    have hpa := o.ext _ _ o.fx.pl
    have hnp := o.fx.np
    obtain ⟨P, p, M1, hP, hp, ow, bkP⟩ := o.same hk
    have hpr := ow.prc
    have hPk : (X.prs.map V.ref)[k]? = some (.ref P.pr) := by rw [List.getElem?_map, hP]; rfl
    obtain ⟨rwi, rwl⟩ := hrw p (List.mem_of_getElem? hp)
    have hpd : h.ps.getD k pr0 = p := by rw [List.getD_eq_getElem?_getD, hp]; rfl
    refine ⟨_, rfl, _, _, _, _, _, rfl, ho, T.cl_House, T.t_House_processors, rfl, _, rfl, _, _, _, _, rfl, rfl, l_of hpa, atIn hPk, P.pr, P.dp, _, rfl, hpr, rfl, X.B, P, F.S, K0, h.bo, p, M ++ M1, rfl, ow, by omega, fun H1 a ev ow1 hevp => ?_⟩
    have o1 := bkP K0 H1 ((a, .lst ev) :: M) (Same.refl _) ow1
    clear ow1 bkP
    have ho1 := o1.obj
    refine ⟨_, rfl, X.hs, X.dh, _, rfl, ho1, rfl, X, F, K0, h, _, rfl, o1, fun L0 H2 g2 hL0 hL1 => ?_⟩
    have o2 := o1.own' g2 hL0 hL1
    refine ⟨_, rfl, ⟨_, l_of hL1⟩, fun D hD => ?_⟩
    have rl : (runH F h).length ≤ 6 := by
      have z := List.length_filter_le (isOn h.sts) (List.range F.c)
      rw [List.length_range] at z
      have := o.fx.c6
      unfold runH
      omega
    refine lc_it (walk_list (xs := natV (runH F h))) (fun i H' => ∃ K' acc, Same K0 K' ∧ OwnH K X F K' H' h ((D, .lst acc) :: (L0, .lst (natV (runH F h))) :: (a, .lst ev) :: M) ∧ Paired (IIAt K K') acc (((runH F h).take i).map (cr h))) ⟨K0, [], Same.refl _, o2.own' (same_new (Same.refl _) hD) hD upd_same, .nil⟩ ?_ ?_ ?_
    · rintro i H' _ ⟨K', acc, g, o3, _⟩
      exact l_of o3.tail.fr
    · rintro i v H3 H4 hi ⟨K', acc, g, o3, pr⟩ ⟨rfl, e2⟩
      obtain ⟨r, hr, rfl⟩ := natV_get e2
      have hrm := List.mem_of_getElem? hr
      have hrc := run_lt hrm
      have ho3 := o3.obj
      have hpa3 := o3.ext _ _ o3.fx.pl
      obtain ⟨P3, p3, M3, hP3, hp3, ow3, bk3⟩ := o3.same hrc
      have hPr : (X.prs.map V.ref)[r]? = some (.ref P3.pr) := by rw [List.getElem?_map, hP3]; rfl
      have hpd3 : h.ps.getD r pr0 = p3 := by rw [List.getD_eq_getElem?_getD, hp3]; rfl
      obtain ⟨_, rwl3⟩ := hrw p3 (List.mem_of_getElem? hp3)
      refine ⟨rfl, _, rfl, _, _, _, _, _, rfl, ho3, T.cl_House, T.t_House_processors, rfl, _, rfl, _, _, _, _, rfl, rfl, l_of hpa3, atIn hPr, P3.pr, P3.dp, _, rfl, ow3.prc, rfl, X.B, P3, F.S, K', h.bo, p3, _, rfl, ow3, by omega, fun H5 a5 ev5 ow5 hev5 => ?_⟩
      have o5 := bk3 K' H5 ((a5, .lst ev5) :: (D, .lst acc) :: (L0, .lst (natV (runH F h))) :: (a, .lst ev) :: M) (Same.refl _) ow5
      have hl5 := hev5.length
      refine ⟨_, _, rfl, .inl (l_of o5.fr), _, rfl, small8 (by simp), fun t ht => ?_⟩
      obtain ⟨o6, s6⟩ := o5.tail.keep (x := .tup [.int (ev5.length : Nat), .int (r : Nat)]) ht
      have hal := pr.length
      refine ⟨_, o6.fr, sm6 (by simp at hal; omega), _, _, Same.tr g s6, o6.put, ?_⟩
      rw [take_snoc hr, List.map_append]
      refine (pr.mono fun _ _ z => IIAt.up s6 z).snoc ⟨t, rfl, ?_⟩
      show SqT K _ t [.int (((h.ps.getD r pr0).rows.length : Nat) : Int), .int (r : Nat)]
      rw [hpd3, ← hl5]
      exact t_of upd_same
    rintro H3 ⟨K', acc, g, o3, pr⟩
    rw [List.take_of_length_le (by rw [natV_len]; exact Nat.le_refl _)] at pr
    have tm := tgt_mem hne
    have tc := run_lt tm
    have ton := run_on tm
    have tk : k ≠ tgt F h := fun e => by rw [← e, hoff] at ton; cases ton
    cases er : runH F h with
    | nil => exact absurd er hne
    | cons r0 rs =>
    have et : (PySem.W.minOf (cr h r0) (rs.map (cr h))).2 = ((tgt F h : Nat) : Int) := by
      obtain ⟨x, hx, ex⟩ := List.mem_map.mp (show PySem.W.minOf (cr h r0) (rs.map (cr h)) ∈ (r0 :: rs).map (cr h) from minOf_mem _ _)
      unfold tgt
      rw [er]
      dsimp only
      rw [← ex]
      rfl
    rw [er, List.map_cons] at pr
    refine ⟨_, rfl, _, acc, cr h r0, rs.map (cr h), rfl, l_of o3.fr, pr.mono fun _ _ z => IIAt.up o3.ext z, fun v hv hvt => ?_⟩
    obtain ⟨t, rfl, ht⟩ := hvt
    rw [et] at ht
    have etg : moveH F h k = { handH F h k (tgt F h) with ev := h.ev ++ (h.ps.getD k pr0).rows.map (movedE h (tgt F h)) } := rfl
    rw [etg] at q
    clear etg
    generalize tgt F h = j at *
    refine ⟨_, _, rfl, ht, rfl, _, _, rfl, _, _, rfl, rfl, ?_⟩
    have o4 := o3.tail.tail
    have ho4 := o4.obj
    have hpa4 := o4.ext _ _ o4.fx.pl
    obtain ⟨Pk, pk, Pj, pj, svj, rvj, M5, hPk4, hPj4, hpk4, hpj4, jk, ca, rw4, ow4, bk4⟩ := o4.two hk tc tk
    have hpk5 : (X.prs.map V.ref)[k]? = some (.ref Pk.pr) := by rw [List.getElem?_map, hPk4]; rfl
    have hpj5 : (X.prs.map V.ref)[j]? = some (.ref Pj.pr) := by rw [List.getElem?_map, hPj4]; rfl
    have dk : h.ps.getD k pr0 = pk := by rw [List.getD_eq_getElem?_getD, hpk4]; rfl
    have dj : h.ps.getD j pr0 = pj := by rw [List.getD_eq_getElem?_getD, hpj4]; rfl
    obtain ⟨rk1, rk2⟩ := hrw pk (List.mem_of_getElem? hpk4)
    obtain ⟨rj1, rj2⟩ := hrw pj (List.mem_of_getElem? hpj4)
    have epp : pk = p := by rw [hp] at hpk4; exact (Option.some.inj hpk4).symm
    subst epp
    refine ⟨_, rfl, _, _, _, _, _, rfl, ho4, T.cl_House, T.t_House_processors, rfl, _, rfl, _, _, _, _, rfl, rfl, l_of hpa4, atIn hpk5, Pk.pr, Pk.dp, _, rfl, ow4.prc, rfl, _, rfl, _, _, _, _, _, rfl, ho4, T.cl_House, T.t_House_processors, rfl, _, rfl, _, _, _, _, rfl, rfl, l_of hpa4, atIn hpj5, X.B, Pk, Pj, F.S, K', h.bo, pk, pj, svj, rvj, _, rfl, ow4, jk, ca, rw4, rk1, rj1, by omega, fun K5 H5 ro' rvj' s5 prj ow5 => ?_⟩
    have o5 := bk4 K5 H5 h.bo { Pk with ro := ro' } { pk with rows := [] } { pj with rows := handR F.S.ws pj.rows pk.rows } rvj' ((a, .lst ev) :: M) s5 rfl rfl prj ow5
    have eh : { h with bo := h.bo, ps := (h.ps.set k { pk with rows := [] }).set j { pj with rows := handR F.S.ws pj.rows pk.rows } } = handH F h k j := by
      unfold handH
      rw [dk, dj]
    rw [eh] at o5
    have hevl := hevp.length
    refine ⟨_, rfl, _, rfl, ⟨_, l_of o5.fr⟩, ?_⟩
    refine for_it (walk_list (xs := ev)) (fun i σ H' => ∃ y3 y4 y5 y7 K'', σ = [some (.ref X.hs), some (.int (k : Nat)), some (.ref a), y3, y4, y5, some (.int (j : Nat)), y7] ∧ Same K0 K'' ∧ OwnH K X F K'' H' { handH F h k j with ev := h.ev ++ (pk.rows.take i).map (movedE h j) } ((a, .lst ev) :: M)) ⟨_, _, _, _, K5, rfl, Same.tr g s5, by rw [List.take_zero, List.map_nil, List.append_nil]; exact o5⟩ ?_ ?_ ?_
    · rintro i σ H' _ ⟨_, _, _, _, K'', _, _, o6⟩
      exact l_of o6.fr
    · rintro i v σ H6 H7 hi ⟨y3, y4, y5, y7, K'', rfl, g6, o6⟩ ⟨rfl, e2⟩
      obtain ⟨r, hr, t6, rfl, ht6⟩ := pget hevp e2
      have ho6 := o6.obj
      have hil : i < pk.rows.length := by omega
      obtain ⟨evv, ce, pee⟩ := o6.c_ev
      have hel := pee.length
      obtain ⟨M6, ob6, bk6⟩ := o6.board
      have hb6 := ob6.obj
      refine ⟨_, _, rfl, Same.tup (Same.tr g6 o6.ext) ht6, rfl, _, _, rfl, _, _, rfl, rfl, ?_⟩
      refine ⟨_, rfl, _, _, _, _, _, rfl, ho6, T.cl_House, T.t_House_events, rfl, .inl ⟨rfl, _, .inl (.inl ce)⟩, _, rfl, _, _, _, _, _, rfl, ho6, T.cl_House, T.t_House_board, rfl, X.B.bo, X.B.db, _, rfl, hb6, rfl, X.B, F.S, K'', _, _, rfl, ob6, _, rfl, _, rfl, small8 (by simp), fun t ht => ?_⟩
      obtain ⟨o7, s7⟩ := o6.add_ev (e := movedE h j r) ht ce
      refine ⟨_, _, _, rfl, rfl, same_new (Same.refl _) ht _ _ ce, sm6 (by rw [hel]; simp; omega), _, _, _, _, _, rfl, Same.tr g6 s7, ?_⟩
      rw [take_snoc hr, List.map_append, ← List.append_assoc]
      exact o7
    rintro σ H6 ⟨y3, y4, y5, y7, K'', rfl, g6, o6⟩
    rw [List.take_of_length_le (by omega)] at o6
    refine q K'' H6 g6 ?_
    rw [dk]
    exact o6.tail
end
end Cb

namespace Cb
open PySem PySem.Spec PyProof.Rows L2

def sumR (ps : List PrD) : Nat := (ps.map fun p => p.rows.length).sum
theorem sum_set : ∀ {l : List Nat} {k x y : Nat}, l[k]? = some y → (l.set k x).sum + y = l.sum + x
  | a :: l, 0, x, y, h => by
    obtain rfl := Option.some.inj h
    rw [List.set_cons_zero, List.sum_cons, List.sum_cons]
    omega
  | a :: l, k + 1, x, y, h => by
    have z := sum_set (l := l) (k := k) (x := x) (y := y) h
    rw [List.set_cons_succ, List.sum_cons, List.sum_cons]
    omega
theorem sumR_le {ps : List PrD} {p : PrD} (h : p ∈ ps) : p.rows.length ≤ sumR ps := by
  unfold sumR
  induction ps with
  | nil => cases h
  | cons a l ih =>
    rw [List.map_cons, List.sum_cons]
    rcases List.mem_cons.mp h with rfl | h
    · omega
    · have := ih h
      omega
theorem sumR_hand {F : HFx} {h : HsD} {k j : Nat} {p p2 : PrD} (hk : h.ps[k]? = some p) (hj : h.ps[j]? = some p2) (ne : k ≠ j) : sumR (handH F h k j).ps ≤ sumR h.ps := by
  have dk : h.ps.getD k pr0 = p := by rw [List.getD_eq_getElem?_getD, hk]; rfl
  have dj : h.ps.getD j pr0 = p2 := by rw [List.getD_eq_getElem?_getD, hj]; rfl
  show sumR ((h.ps.set k { h.ps.getD k pr0 with rows := [] }).set j { h.ps.getD j pr0 with rows := handR F.S.ws (h.ps.getD j pr0).rows (h.ps.getD k pr0).rows }) ≤ _
  rw [dk, dj]
  unfold sumR
  rw [List.map_set, List.map_set]
  have e1 : (h.ps.map fun p => p.rows.length)[k]? = some p.rows.length := by rw [List.getElem?_map, hk]; rfl
  have e2 : (h.ps.map fun p => p.rows.length)[j]? = some p2.rows.length := by rw [List.getElem?_map, hj]; rfl
  have s1 := sum_set (x := 0) e1
  have e3 : ((h.ps.map fun p => p.rows.length).set k 0)[j]? = some p2.rows.length := by rw [List.getElem?_set, if_neg ne]; exact e2
  have s2 := sum_set (x := (handR F.S.ws p2.rows p.rows).length) e3
  have hl := handR_len (ws := F.S.ws) (rows := p2.rows) (m := p.rows)
  show (((h.ps.map fun p => p.rows.length).set k 0).set j (handR F.S.ws p2.rows p.rows).length).sum ≤ _
  omega
structure OffLe (F : HFx) (h h' : HsD) (i : Nat) : Prop where
  bo : h'.bo = h.bo
  wd : h'.wd = h.wd
  pl : h'.ps.length = F.c
  sl : h'.sts.length = F.c
  on : ∀ j, isOn h'.sts j = isOn h.sts j
  ri : ∀ p ∈ h'.ps, RowsIn F.S.ws p.rows ∧ p.stack.length ≤ 13
  sr : sumR h'.ps ≤ sumR h.ps
  ev : h'.ev.length ≤ h.ev.length + i * (1 + sumR h.ps)
theorem run_congr {F : HFx} {h h' : HsD} (e : ∀ j, isOn h'.sts j = isOn h.sts j) : runH F h' = runH F h := by
  unfold runH
  congr 1
  funext j
  exact e j
theorem offS_le {F : HFx} {h h' : HsD} {i : Nat} (n : OffLe F h h' i) (hi : i < F.c) (hne : runH F h ≠ []) : OffLe F h (offS F h' i) (i + 1) := by
  unfold offS
  split
  · next hc =>
    obtain ⟨hs, hst⟩ := hc
    have il : i < h'.sts.length := by rw [n.sl]; exact hi
    have on1 : ∀ j, isOn (h'.sts.set i "off") j = isOn h'.sts j := fun j => by
      unfold isOn
      rw [getD_set il]
      by_cases e : j = i
      · subst e
        rw [if_pos rfl, hs]
        decide +kernel
      · rw [if_neg e]
    generalize hh : ({ h' with sts := h'.sts.set i "off", ev := h'.ev ++ [.off h'.bo.tk i] } : HsD) = h1
    have f1 : h1.ps = h'.ps := by rw [← hh]
    have f2 : h1.sts = h'.sts.set i "off" := by rw [← hh]
    have f3 : h1.ev.length = h'.ev.length + 1 := by rw [← hh]; simp
    have f4 : h1.bo = h'.bo := by rw [← hh]
    have f5 : h1.wd = h'.wd := by rw [← hh]
    have on2 : ∀ j, isOn h1.sts j = isOn h.sts j := fun j => by rw [f2, on1, n.on]
    have rne : runH F h1 ≠ [] := by rw [run_congr on2]; exact hne
    have tm := tgt_mem rne
    have tc := run_lt tm
    have ton := run_on tm
    have tk : i ≠ tgt F h1 := fun e => by
      rw [← e, f2] at ton
      unfold isOn at ton
      rw [getD_set il, if_pos rfl] at ton
      exact absurd (of_decide_eq_true ton) (by decide +kernel)
    obtain ⟨p, hp⟩ : ∃ p, h1.ps[i]? = some p := ⟨_, List.getElem?_eq_getElem (by rw [f1, n.pl]; exact hi)⟩
    obtain ⟨p2, hp2⟩ : ∃ p, h1.ps[tgt F h1]? = some p := ⟨_, List.getElem?_eq_getElem (by rw [f1, n.pl]; exact tc)⟩
    have dk : h1.ps.getD i pr0 = p := by rw [List.getD_eq_getElem?_getD, hp]; rfl
    have dj : h1.ps.getD (tgt F h1) pr0 = p2 := by rw [List.getD_eq_getElem?_getD, hp2]; rfl
    have sm := sumR_hand (F := F) hp hp2 tk
    obtain ⟨r1, st1⟩ := n.ri p (by rw [← f1]; exact List.mem_of_getElem? hp)
    obtain ⟨r2, st2⟩ := n.ri p2 (by rw [← f1]; exact List.mem_of_getElem? hp2)
    have rp := sumR_le (List.mem_of_getElem? hp)
    rw [f1] at rp
    have nsr := n.sr
    have nev := n.ev
    refine ⟨?_, ?_, ?_, ?_, on2, ?_, ?_, ?_⟩
    · exact f4.trans n.bo
    · exact f5.trans n.wd
    · show (List.set (List.set h1.ps _ _) _ _).length = _
      rw [List.length_set, List.length_set, f1, n.pl]
    · show h1.sts.length = _
      rw [f2, List.length_set, n.sl]
    · intro x hx
      have hx : x ∈ ((h1.ps.set i { h1.ps.getD i pr0 with rows := [] }).set (tgt F h1) { h1.ps.getD (tgt F h1) pr0 with rows := handR F.S.ws (h1.ps.getD (tgt F h1) pr0).rows (h1.ps.getD i pr0).rows }) := hx
      rw [dk, dj] at hx
      rcases List.mem_or_eq_of_mem_set hx with hx | rfl
      · rcases List.mem_or_eq_of_mem_set hx with hx | rfl
        · exact n.ri x (by rw [← f1]; exact hx)
        · exact ⟨fun r hr => (List.not_mem_nil hr).elim, st1⟩
      · exact ⟨handR_in r2 r1, st2⟩
    · refine Nat.le_trans sm ?_
      rw [f1]
      exact nsr
    · show (h1.ev ++ ((h1.ps.getD i pr0).rows.map (movedE h1 (tgt F h1)))).length ≤ _
      rw [List.length_append, List.length_map, dk, f3, Nat.add_mul, Nat.one_mul]
      omega
  · exact ⟨n.bo, n.wd, n.pl, n.sl, n.on, n.ri, n.sr, by have := n.ev; rw [Nat.add_mul, Nat.one_mul]; omega⟩
theorem offsH_le {F : HFx} {h : HsD} (h0 : OffLe F h h 0) (hne : runH F h ≠ []) : ∀ {n : Nat}, n ≤ F.c → OffLe F h (offsH F h n) n
  | 0, _ => h0
  | n + 1, hn => by
    rw [offsH_succ]
    exact offS_le (offsH_le h0 hne (Nat.le_of_succ_le hn)) hn hne
def sp_House_let_go_off (K : PySem.W.Frag) : Sp := fun vs H Q _ => ∃ (X : AdH) (F : HFx) (K0 : Hp) (h : HsD) (M : List (Addr × HO)), vs = [.ref X.hs] ∧ OwnH K X F K0 H h M ∧ runH F h ≠ [] ∧ (∀ p ∈ h.ps, RowsIn F.S.ws p.rows ∧ p.stack.length ≤ 13) ∧ sumR h.ps ≤ 50000 ∧ h.ev.length ≤ 300000 ∧
  ∀ K1 H', Same K0 K1 → OwnH K X F K1 H' (offsH F h F.c) M → Q .non H'

section
variable {P : Program} {w : World} {K : PySem.W.Frag} {mg : Str → Option Value} {base : Heap}

abbrev N_House_let_go_off : List Str := ["self", "at"]
theorem sc_House_let_go_off : FnScope N_House_let_go_off ["self"] (C8.fnScope s_House_let_go_off) := C8.fnScope_by (by decide +kernel)
theorem ok_House_let_go_off {fd : FuncData} (T : Txt K mg) (F : FunD K "_let_go_off" "House._let_go_off" (C8.fnArgs s_House_let_go_off) (C8.fnBody s_House_let_go_off) (C8.fnScope s_House_let_go_off) [] [] (He.ma K (aC "House" K) "_let_go_off") fd) (c_call_rows : C8.Met P w K mg base 1 (aC "Processor" K) "call_rows" (sp_Processor_call_rows K) []) (c_tick_number : C8.Met P w K mg base 1 (aC "HouseBoard" K) "tick_number" (sp_HouseBoard_tick_number K) []) (c_move_works : C8.Met P w K mg base 5 (aC "House" K) "_move_works" (sp_House_move_works K) []) :
    C8.Met P w K mg base 6 (aC "House" K) "_let_go_off" (sp_House_let_go_off K) [] := by
  refine C8.met0 T.cl_House T.m_House_let_go_off (fun_c8 F) (F.bindsN fun _ _ _ _ _ _ us hl => match us, hl with | [_], _ => rfl) sc_House_let_go_off (fun vs H Q E h => ?_) (fun cdv A outer s H vs Q E hr h => ?_)
  · obtain ⟨_, _, _, _, _, rfl, _⟩ := h
    rfl
  · have nd := sc_House_let_go_off.nd
    have hu := hu_of hr
    obtain ⟨X, F, K0, h, M, rfl, o, hne, hri, hsr, hev, q⟩ := h
    refine ⟨_, (pss_one (ps_for PassesOwn.never rfl (pi_range1 (by rfl) T.n_range (pa_cons (pe_fld (pv 0) rfl) pa_nil)) (pg_name (i := 1) nd rfl (Or.inl rfl)) (pss_one (ps_if (PW.pt (pw_and (pt_cmpR op_eq (pe_ix ix_list (pe_fld (pv 0) rfl) (pv 1) (fun _ _ => rfl)) pe_str (nomark _)) (pw_and1 (pt_not (pt_truth (C8.pe_mt0 c_call_rows hr (by decide) (pe_ix ix_list (pe_fld (pv 0) rfl) (pv 1) (fun _ _ => rfl))) (by intro _; rfl)))))) (pss_cons (ps_asg pe_str (pg_sub (pe_fld (pv 0) rfl) (pv 1) set_list))
      (pss_cons (ps_expr (pe_bm PySem.F.plainAttrs_list PySem.F.slot_list_append PySem.F.type_list_append mt_append (pe_fld (pv 0) rfl) (pa_cons (pe_tup (pa_cons pe_str (pa_cons (C8.pe_mt0 c_tick_number hr (by decide) (pe_fld (pv 0) rfl)) (pa_cons (pv 1) pa_nil)))) pa_nil)))
      (pss_one (ps_expr (C8.pe_mt c_move_works hr (by decide) (pv 0) (pa_cons (pv 1) pa_nil)))))) pss_nil)))), ?_⟩
    have ho := o.obj
    have hc6 := o.fx.c6
    have h0 : OffLe F h h 0 := ⟨rfl, rfl, o.pl, o.sl, fun _ => rfl, hri, Nat.le_refl _, by omega⟩
    refine ⟨_, rfl, _, _, _, _, _, rfl, ho, T.cl_House, T.t_House_count, rfl, (F.c : Nat), rfl, by omega, by omega, ?_⟩
    refine for_it (walk_range (lo := 0) (n := ((F.c : Nat) : Int).toNat)) (fun i σ H' => ∃ y1 K', σ = [some (.ref X.hs), y1] ∧ Same K0 K' ∧ OwnH K X F K' H' (offsH F h i) M) ⟨_, K0, rfl, Same.refl _, o⟩ (fun _ _ _ _ _ => trivial) ?_ ?_
    · rintro i v σ H1 H2 hi ⟨y1, K', rfl, g, o1⟩ ⟨rfl, rfl⟩
      have hic : i < F.c := by simpa using hi
      have nl := offsH_le h0 hne (Nat.le_of_lt hic)
      rw [offsH_succ]
      have nl2 := offS_le nl hic hne
      generalize offsH F h i = h' at o1 nl nl2
      have e0 : (0 : Int) + (i : Nat) = (i : Nat) := Int.zero_add _
      have ho1 := o1.obj
      have csa := o1.c_sa
      obtain ⟨x, hx⟩ : ∃ x, h'.sts[i]? = some x := ⟨_, List.getElem?_eq_getElem (by rw [nl.sl]; exact hic)⟩
      have hxd : h'.sts.getD i "off" = x := by rw [List.getD_eq_getElem?_getD, hx]; rfl
      show gName 1 (V.int (0 + (i : Nat))) _ _ _
      rw [e0]
      refine ⟨_, rfl, _, _, _, _, _, rfl, ho1, T.cl_House, T.t_House_states, rfl, _, rfl, _, _, _, _, rfl, rfl, l_of csa, atIn (stV_at hx), rfl, decide (x = "leaving"), str_eq2, ?_⟩
      have hpa := o1.ext _ _ o1.fx.pl
      obtain ⟨P, p, M1, hP, hp, ow, bkP⟩ := o1.same hic
      have hPi : (X.prs.map V.ref)[i]? = some (.ref P.pr) := by rw [List.getElem?_map, hP]; rfl
      have dp : h'.ps.getD i pr0 = p := by rw [List.getD_eq_getElem?_getD, hp]; rfl
      obtain ⟨_, hst⟩ := nl.ri p (List.mem_of_getElem? hp)
      by_cases ex : x = "leaving"
      · rw [decide_eq_true ex]
        refine iteT ?_
        refine ⟨_, rfl, _, _, _, _, _, rfl, ho1, T.cl_House, T.t_House_processors, rfl, _, rfl, _, _, _, _, rfl, rfl, l_of hpa, atIn hPi, P.pr, P.dp, _, rfl, ow.prc, rfl, X.B, P, F.S, K', h'.bo, p, M ++ M1, rfl, ow, by omega, fun K2 H2 a ev s2 ow2 hev2 => ?_⟩
        have o2 := bkP K2 H2 ((a, .lst ev) :: M) s2 ow2
        refine ⟨!ev.isEmpty, .inl ⟨_, l_of o2.fr, rfl⟩, ?_⟩
        have hle := hev2.length
        cases ev with
        | cons y ys =>
          have ne : ¬ p.stack = [] := fun e => by rw [e] at hle; cases hle
          have e : offS F h' i = h' := by unfold offS; rw [dp]; exact if_neg fun z => ne z.2
          rw [e]
          exact iteF ⟨_, K2, rfl, Same.tr g s2, o2.tail⟩
        | nil =>
          have est : p.stack = [] := List.eq_nil_of_length_eq_zero hle.symm
          have e : offS F h' i = moveH F { h' with sts := h'.sts.set i "off", ev := h'.ev ++ [.off h'.bo.tk i] } i := by
            unfold offS
            rw [dp, hxd]
            exact if_pos ⟨ex, est⟩
          rw [e]
          refine iteT ?_
          have o2 := o2.tail
          have ho2 := o2.obj
          have csa2 := o2.c_sa
          have il : i < h'.sts.length := by rw [nl.sl]; exact hic
          have o3 := o2.put_sa (x := h'.sts.set i "off") (by rw [List.length_set]; exact nl.sl)
          have ho3 := o3.obj
          obtain ⟨evv, ce, pe⟩ := o3.c_ev
          have hel := pe.length
          obtain ⟨M3, ob3, _⟩ := o3.board
          have hb3 := ob3.obj
          refine ⟨_, rfl, _, _, _, _, _, rfl, ho2, T.cl_House, T.t_House_states, rfl, _, rfl, X.sa, stV h'.sts, (i : Nat), i, rfl, rfl, csa2, ?_, ?_⟩
          · unfold ixN stV
            rw [List.length_map, if_pos (by omega), if_pos (by omega), Int.toNat_natCast]
          have ess : (stV h'.sts).set i (.str "off") = stV (h'.sts.set i "off") := by unfold stV; rw [List.map_set]
          rw [ess]
          refine ⟨_, rfl, _, _, _, _, _, rfl, ho3, T.cl_House, T.t_House_events, rfl, .inl ⟨rfl, _, .inl (.inl ce)⟩, _, rfl, _, _, _, _, _, rfl, ho3, T.cl_House, T.t_House_board, rfl, X.B.bo, X.B.db, _, rfl, hb3, rfl, X.B, F.S, K2, _, _, rfl, ob3, _, rfl, small8 (by simp), fun t ht => ?_⟩
          obtain ⟨o4, s4⟩ := o3.add_ev (e := .off h'.bo.tk i) ht ce
          have nev := nl.ev
          have nsr := nl.sr
          have i6 : i ≤ 6 := by omega
          have big : i * (1 + sumR h.ps) ≤ 6 * 50001 := Nat.mul_le_mul i6 (by omega)
          refine ⟨_, _, _, rfl, rfl, same_new (Same.refl _) ht _ _ ce, sm6 (by rw [hel]; show h'.ev.length ≤ _; omega), ?_⟩
          have ho4 := o4.obj
          refine ⟨_, rfl, X.hs, X.dh, _, rfl, ho4, rfl, _, rfl, X, F, _, _, M, i, rfl, o4, hic, ?_, ?_, ?_, ?_, fun K5 H5 s5 o5 => ⟨_, K5, rfl, Same.tr g (Same.tr s2 (Same.tr s4 s5)), o5⟩⟩
          · show isOn (h'.sts.set i "off") i = false
            unfold isOn
            rw [getD_set il, if_pos rfl]
            decide +kernel
          · have on1 : ∀ j, isOn (h'.sts.set i "off") j = isOn h'.sts j := fun j => by
              unfold isOn
              rw [getD_set il]
              by_cases e : j = i
              · subst e
                rw [if_pos rfl, hxd, ex]
                decide +kernel
              · rw [if_neg e]
            have e9 : runH F { h' with sts := h'.sts.set i "off", ev := h'.ev ++ [.off h'.bo.tk i] } = runH F h := run_congr fun j => (on1 j).trans (nl.on j)
            rw [e9]
            exact hne
          · intro q hq
            have r9 := sumR_le (show q ∈ h'.ps from hq)
            exact ⟨(nl.ri q hq).1, by omega⟩
          · show (h'.ev ++ [HEv.off h'.bo.tk i]).length ≤ _
            rw [List.length_append]
            simp
            omega
      · rw [decide_eq_false ex]
        have e : offS F h' i = h' := by unfold offS; rw [hxd]; exact if_neg fun z => ex z.1
        rw [e]
        exact iteF (iteF ⟨_, K', rfl, g, o1⟩)
    rintro σ H1 ⟨y1, K', rfl, g, o1⟩
    exact q K' H1 g o1
end
end Cb

namespace Cb
open PySem PySem.Spec PyProof.Rows L2

structure PrG (S : SetD) (p : PrD) : Prop where
  calls : ∀ c ∈ p.stack, CallOk S c
  asc : p.stack.Pairwise fun a b => a.line.rank < b.line.rank
  ri : RowsIn S.ws p.rows
structure Grow (S : SetD) (b : BdD) (p : PrD) (z : BdD × PrD × List Ev) (n : Nat) : Prop where
  pg : PrG S z.2.1
  rl : z.2.1.rows.length ≤ p.rows.length + 8 * n
  rg : z.1.rg.length ≤ b.rg.length + 8 * n
  el : z.2.2.length ≤ n
  ei : ∀ e ∈ z.2.2, EvIn S e
theorem asc_len : ∀ {l : List CallD} {a : Int}, l.Pairwise (fun x y => x.line.rank < y.line.rank) → (∀ c ∈ l, a ≤ c.line.rank ∧ c.line.rank ≤ 9) → a ≤ 10 → (l.length : Int) ≤ 10 - a
  | [], a, _, _, h => by simp; omega
  | c :: l, a, pw, h, ha => by
    have z := List.pairwise_cons.mp pw
    obtain ⟨h1, h2⟩ := h c List.mem_cons_self
    have ih := asc_len (l := l) (a := c.line.rank + 1) z.2 (fun d hd => ⟨by have := z.1 d hd; omega, (h d (List.mem_cons_of_mem _ hd)).2⟩) (by omega)
    rw [List.length_cons]
    omega
theorem PrG.len {S : SetD} {p : PrD} (ok : SetOk S) (g : PrG S p) : p.stack.length ≤ 9 := by
  have z := asc_len (a := 1) g.asc (fun c hc => by
    have := ok.ok.ok c.line (g.calls c hc).ln
    exact ⟨this.r1, this.r9⟩) (by omega)
  omega
theorem goA_stack {ws : List WorkD} {b : BdD} {p : PrD} {r : List CallD} {c : CallD} (h : p.stack = r ++ [c]) : ((goA ws b p).2.1.stack = r ∧ (goA ws b p).2.2 = [.fin c.line]) ∨ (∃ c', c'.line = c.line ∧ (goA ws b p).2.1.stack = r ++ [c'] ∧ (goA ws b p).2.2 = []) := by
  have hs : ∀ (l : List SD) (j : Nat) (b : BdD) (p : PrD), (thru ws l j b p).2.2.stack = p.stack := by
    intro l
    induction l with
    | nil => intro j b p; rfl
    | cons st l ih =>
      intro j b p
      rw [thru]
      split
      · rw [ih, actP_stack]
      · rfl
  rw [goA_snoc h]
  simp only
  split
  · right
    exact ⟨⟨c.line, (thru ws (c.line.steps.drop c.step) c.step b { p with stack := r }).1, c.ticks, c.kept⟩, rfl, by simp only [hs], rfl⟩
  · left
    exact ⟨by simp only [hs], rfl⟩
theorem goA_grow {S : SetD} {b : BdD} {p : PrD} {r : List CallD} {c : CallD} (ok : SetOk S) (h : p.stack = r ++ [c]) (hl : c.line ∈ S.ls) (hs : c.step ≤ c.line.steps.length) (ht : c.ticks = 0) (hr : ∀ c' ∈ r, CallOk S c') (pa : (r ++ [c]).Pairwise fun a b => a.line.rank < b.line.rank) (ri : RowsIn S.ws p.rows) : Grow S b p (goA S.ws b p) 1 := by
  have G := goA_ok (b := b) ok h hl hs ht hr ri
  have R := goA_rg (b := b) ok h hl
  have p3 := List.pairwise_append.mp pa
  refine ⟨⟨G.calls, ?_, G.ri⟩, by have := G.rl; omega, by omega, ?_, ?_⟩
  · rcases goA_stack (ws := S.ws) (b := b) h with ⟨e, _⟩ | ⟨c', e1, e, _⟩
    · rw [e]; exact p3.1
    · rw [e]
      refine List.pairwise_append.mpr ⟨p3.1, List.pairwise_singleton _ _, fun x hx y hy => ?_⟩
      rw [List.mem_singleton.mp hy, e1]
      exact p3.2.2 x hx c List.mem_cons_self
  · rcases goA_stack (ws := S.ws) (b := b) h with ⟨_, e⟩ | ⟨c', e1, _, e⟩ <;> rw [e] <;> simp
  · rcases goA_stack (ws := S.ws) (b := b) h with ⟨_, e⟩ | ⟨c', e1, _, e⟩
    · rw [e]
      intro x hx
      rw [List.mem_singleton.mp hx]
      exact hl
    · rw [e]
      intro x hx
      cases hx
theorem step_le {S : SetD} {c : CallD} (h : CallOk S c) : c.step < c.line.steps.length := by
  rcases h.st with ⟨n, e, _⟩ | ⟨f, e, _⟩
  · exact (List.getElem?_eq_some_iff.mp e).1
  · exact (List.getElem?_eq_some_iff.mp e).1
theorem onA_grow {S : SetD} (ok : SetOk S) : ∀ (n : Nat) (b : BdD) (p : PrD), PrG S p → Grow S b p (onA S.ws n b p) n
  | 0, b, p, g => ⟨g, by simp [onA], by simp [onA], by simp [onA], by simp [onA]⟩
  | n + 1, b, p, g => by
    cases e : passes b p with
    | false =>
      rw [onA_no e]
      exact ⟨g, Nat.le_add_right _ _, Nat.le_add_right _ _, Nat.zero_le _, fun _ h => by cases h⟩
    | true =>
      obtain ⟨r, c, f, hst, hf⟩ := passes_top e
      have hc := g.calls c (by rw [hst]; simp)
      have ht : c.ticks = 0 := by
        rcases hc.st with ⟨m, e2, _⟩ | ⟨_, _, z⟩
        · rw [hf] at e2; cases e2
        · exact z
      have G := goA_grow (b := b) ok hst hc.ln (Nat.le_of_lt (step_le hc)) ht (fun c' m => g.calls c' (by rw [hst]; exact List.mem_append_left _ m)) (by rw [← hst]; exact g.asc) g.ri
      have I := onA_grow ok n (goA S.ws b p).1 (goA S.ws b p).2.1 G.pg
      rw [onA_yes e]
      have g1 := G.rl
      have g2 := G.rg
      have g3 := G.el
      have i1 := I.rl
      have i2 := I.rg
      have i3 := I.el
      refine ⟨I.pg, Nat.le_trans i1 (by omega), Nat.le_trans i2 (by omega), ?_, fun x hx => ?_⟩
      · have z : ((goA S.ws b p).2.2 ++ (onA S.ws n (goA S.ws b p).1 (goA S.ws b p).2.1).2.2).length ≤ n + 1 := by
          rw [List.length_append]
          omega
        exact z
      · rcases List.mem_append.mp hx with hx | hx
        · exact G.ei x hx
        · exact I.ei x hx
theorem spendA_grow {S : SetD} {b : BdD} {p : PrD} (ok : SetOk S) (g : PrG S p) : Grow S b p (spendA S.ws b p) 1 := by
  rcases List.eq_nil_or_concat p.stack with e | ⟨r, c, e⟩
  · rw [spendA_nil e]
    split
    · exact ⟨⟨g.calls, g.asc, g.ri⟩, Nat.le_add_right _ _, Nat.le_add_right _ _, Nat.zero_le _, fun _ h => by cases h⟩
    · next n t rr hr =>
      have ri := g.ri
      rw [hr] at ri
      split
      · refine ⟨⟨g.calls, g.asc, fun x hx => ?_⟩, by rw [hr]; simp, Nat.le_add_right _ _, Nat.zero_le _, fun _ h => by cases h⟩
        rcases List.mem_cons.mp hx with rfl | hx
        · exact ri (n, t) List.mem_cons_self
        · exact ri x (List.mem_cons_of_mem _ hx)
      · refine ⟨⟨g.calls, g.asc, fun x hx => ri x (List.mem_cons_of_mem _ hx)⟩, by rw [hr]; simp; omega, Nat.le_add_right _ _, Nat.le_refl _, fun x hx => ?_⟩
        rw [List.mem_singleton.mp hx]
        obtain ⟨w, hw, ew⟩ := ri (n, t) List.mem_cons_self
        exact List.mem_map.mpr ⟨w, hw, ew⟩
  · rw [List.concat_eq_append] at e
    have hco := g.calls c (by rw [e]; simp)
    have hr : ∀ c' ∈ r, CallOk S c' := fun c' m => g.calls c' (by rw [e]; exact List.mem_append_left _ m)
    have pa := g.asc
    rw [e] at pa
    have p3 := List.pairwise_append.mp pa
    have sub : ∀ c2 : CallD, c2.line = c.line → (r ++ [c2]).Pairwise fun a b => a.line.rank < b.line.rank := fun c2 e2 => List.pairwise_append.mpr ⟨p3.1, List.pairwise_singleton _ _, fun x hx y hy => by
      rw [List.mem_singleton.mp hy, e2]
      exact p3.2.2 x hx c List.mem_cons_self⟩
    rcases hco.st with ⟨n, hn, h0, h1⟩ | ⟨f, hf, h0⟩
    · rw [spendA_run e hn]
      split
      · next h2 =>
        refine ⟨⟨fun c' m => ?_, sub _ rfl, g.ri⟩, Nat.le_add_right _ _, Nat.le_add_right _ _, Nat.zero_le _, fun _ h => by cases h⟩
        rcases List.mem_append.mp m with m | m
        · exact hr c' m
        · rw [List.mem_singleton.mp m]
          exact ⟨hco.ln, .inl ⟨n, hn, by show 0 ≤ c.ticks + 1; omega, h2⟩⟩
      · have st := step_le hco
        have G := goA_grow (b := b) (p := { p with c0 := p.c0 + 1, stack := r ++ [⟨c.line, c.step + 1, 0, c.kept⟩] }) (c := ⟨c.line, c.step + 1, 0, c.kept⟩) ok rfl hco.ln st rfl hr (sub _ rfl) g.ri
        exact ⟨G.pg, G.rl, G.rg, G.el, G.ei⟩
    · rw [spendA_await e hf]
      exact ⟨⟨g.calls, g.asc, g.ri⟩, Nat.le_add_right _ _, Nat.le_add_right _ _, Nat.zero_le _, fun _ h => by cases h⟩
theorem goOn_grow {S : SetD} {b : BdD} {p : PrD} (ok : SetOk S) (g : PrG S p) : Grow S b p (goOn S.ws b p) 10 := by
  have A := onA_grow ok p.stack.length b p g
  have B := spendA_grow (b := (onA S.ws p.stack.length b p).1) ok A.pg
  have hl := g.len ok
  have a1 := A.rl
  have a2 := A.rg
  have a3 := A.el
  have b1 := B.rl
  have b2 := B.rg
  have b3 := B.el
  unfold goOn
  refine ⟨B.pg, Nat.le_trans b1 (by omega), Nat.le_trans b2 (by omega), ?_, fun x hx => ?_⟩
  · have z : ((onA S.ws p.stack.length b p).2.2 ++ (spendA S.ws (onA S.ws p.stack.length b p).1 (onA S.ws p.stack.length b p).2.1).2.2).length ≤ 10 := by
      rw [List.length_append]
      omega
    exact z
  · rcases List.mem_append.mp hx with hx | hx
    · exact A.ei x hx
    · exact B.ei x hx
theorem takeA_grow {S : SetD} {b : BdD} {p : PrD} {ls : List LineD} (ok : SetOk S) (g : PrG S p) (hl : ∀ l ∈ ls, l ∈ S.ls) : Grow S b p (takeA S.ws b p ls) 2 := by
  unfold takeA
  split
  · exact ⟨g, Nat.le_add_right _ _, Nat.le_add_right _ _, Nat.zero_le _, fun _ h => by cases h⟩
  · next l ls =>
    split
    · next hf =>
      have hm := hl l List.mem_cons_self
      have pa : (p.stack ++ [(⟨l, 0, 0, p.bar⟩ : CallD)]).Pairwise fun a b => a.line.rank < b.line.rank := by
        refine List.pairwise_append.mpr ⟨g.asc, List.pairwise_singleton _ _, fun x hx y hy => ?_⟩
        rw [List.mem_singleton.mp hy]
        show x.line.rank < l.rank
        rcases List.eq_nil_or_concat p.stack with e | ⟨r, c, e⟩
        · rw [e] at hx; cases hx
        · rw [List.concat_eq_append] at e
          have hfl : c.line.rank ≤ floorA p := by
            rw [floor_snoc e]
            split <;> omega
          have hxc : x.line.rank ≤ c.line.rank := by
            rw [e] at hx
            rcases List.mem_append.mp hx with hx | hx
            · have pa := g.asc
              rw [e] at pa
              exact Int.le_of_lt ((List.pairwise_append.mp pa).2.2 x hx c List.mem_cons_self)
            · rw [List.mem_singleton.mp hx]
              exact Int.le_refl _
          omega
      have G := goA_grow (b := beginB b l) (p := { p with stack := p.stack ++ [⟨l, 0, 0, p.bar⟩] }) (r := p.stack) (c := ⟨l, 0, 0, p.bar⟩) ok rfl hm (Nat.zero_le _) rfl g.calls pa g.ri
      have g1 := G.rl
      have g2 := G.rg
      have g3 := G.el
      refine ⟨G.pg, Nat.le_trans g1 (by show p.rows.length + 8 * 1 ≤ _; omega), Nat.le_trans g2 (by show b.rg.length + 8 * 1 ≤ _; omega), Nat.succ_le_succ g3, fun x hx => ?_⟩
      · rcases List.mem_cons.mp hx with rfl | hx
        · exact hm
        · exact G.ei x hx
    · exact ⟨g, Nat.le_add_right _ _, Nat.le_add_right _ _, Nat.zero_le _, fun _ h => by cases h⟩

section
variable {P : Program} {w : World} {K : PySem.W.Frag} {mg : Str → Option Value} {base : Heap}

end
end Cb

namespace Cb
open PySem PySem.Spec PyProof.Rows L2

def readyLs (F : HFx) (h : HsD) (k : Nat) : List LineD := (linesO F.S).filter (readyP h.bo (k : Nat))
def takesS (F : HFx) (h : HsD) (k : Nat) : HsD :=
  notesH F { h with bo := (takeA F.S.ws h.bo (h.ps.getD k pr0) (readyLs F h k)).1, ps := h.ps.set k (takeA F.S.ws h.bo (h.ps.getD k pr0) (readyLs F h k)).2.1 } k (takeA F.S.ws h.bo (h.ps.getD k pr0) (readyLs F h k)).2.2
def goesS (F : HFx) (h : HsD) (k : Nat) : HsD := if h.sts.getD k "off" = "off" then h else
  notesH F { h with bo := (goOn F.S.ws h.bo (h.ps.getD k pr0)).1, ps := h.ps.set k (goOn F.S.ws h.bo (h.ps.getD k pr0)).2.1 } k (goOn F.S.ws h.bo (h.ps.getD k pr0)).2.2
def takesH (F : HFx) (h : HsD) (ks : List Nat) : HsD := ks.foldl (takesS F) h
def goesH (F : HFx) (h : HsD) (n : Nat) : HsD := (List.range n).foldl (goesS F) h
theorem takesH_snoc {F : HFx} {h : HsD} {ks : List Nat} {k : Nat} : takesH F h (ks ++ [k]) = takesS F (takesH F h ks) k := by
  unfold takesH
  rw [List.foldl_append]
  rfl
theorem goesH_succ {F : HFx} {h : HsD} {n : Nat} : goesH F h (n + 1) = goesS F (goesH F h n) n := by
  unfold goesH
  rw [List.range_succ, List.foldl_append]
  rfl
def tick1 (F : HFx) (h : HsD) : HsD := placesH F h (freeLs F h)
def tick2 (F : HFx) (h : HsD) : HsD := takesH F (tick1 F h) (runH F (tick1 F h))
def tick3 (F : HFx) (h : HsD) : HsD := goesH F (tick2 F h) F.c
def tick4 (F : HFx) (h : HsD) : HsD := offsH F (tick3 F h) F.c
def tickH (F : HFx) (h : HsD) : HsD := { tick4 F h with bo := tickB (tick4 F h).bo }
/-- what stays, and how much it grows -/
structure HGrow (F : HFx) (h h' : HsD) (n : Nat) : Prop where
  gp : ∀ p ∈ h'.ps, PrG F.S p
  pl : h'.ps.length = F.c
  st : h'.sts = h.sts
  sr : sumR h'.ps ≤ sumR h.ps + 8 * n
  rg : h'.bo.rg.length ≤ h.bo.rg.length + 8 * n
  ev : h'.ev.length ≤ h.ev.length + 2 * n
  cn : ∀ m, (h'.wd.cnt m).length ≤ (h.wd.cnt m).length + n
theorem HGrow.step {F : HFx} {h h' : HsD} {n m k : Nat} {p : PrD} {z : BdD × PrD × List Ev} (g : HGrow F h h' n) (hp : h'.ps[k]? = some p) (G : Grow F.S h'.bo p z m) : HGrow F h (notesH F { h' with bo := z.1, ps := h'.ps.set k z.2.1 } k z.2.2) (n + m) := by
  have N := notesH_le (F := F) (h := { h' with bo := z.1, ps := h'.ps.set k z.2.1 }) (p := k) (es := z.2.2)
  have n1 : (notesH F { h' with bo := z.1, ps := h'.ps.set k z.2.1 } k z.2.2).bo = z.1 := N.tk
  have n2 : (notesH F { h' with bo := z.1, ps := h'.ps.set k z.2.1 } k z.2.2).ps = h'.ps.set k z.2.1 := N.ps
  have n3 : (notesH F { h' with bo := z.1, ps := h'.ps.set k z.2.1 } k z.2.2).sts = h'.sts := N.sts
  have n4 : (notesH F { h' with bo := z.1, ps := h'.ps.set k z.2.1 } k z.2.2).ev.length ≤ h'.ev.length + 2 * z.2.2.length := N.ev
  have n5 : ∀ m, ((notesH F { h' with bo := z.1, ps := h'.ps.set k z.2.1 } k z.2.2).wd.cnt m).length ≤ (h'.wd.cnt m).length + z.2.2.length := N.cn
  have g1 := g.sr
  have g2 := g.rg
  have g3 := g.ev
  have G1 := G.rl
  have G2 := G.rg
  have G3 := G.el
  refine ⟨?_, ?_, n3.trans g.st, ?_, ?_, by omega, fun m => by have := n5 m; have := g.cn m; omega⟩
  · rw [n2]
    intro x hx
    rcases List.mem_or_eq_of_mem_set hx with hx | rfl
    · exact g.gp x hx
    · exact G.pg
  · rw [n2, List.length_set]
    exact g.pl
  · rw [n2]
    have e1 : (h'.ps.map fun p => p.rows.length)[k]? = some p.rows.length := by rw [List.getElem?_map, hp]; rfl
    have s1 := sum_set (x := z.2.1.rows.length) e1
    unfold sumR at g1 ⊢
    rw [List.map_set]
    omega
  · rw [n1]
    omega
theorem takesS_grow {F : HFx} {h h' : HsD} {n k : Nat} (ok : SetOk F.S) (g : HGrow F h h' n) (hk : k < F.c) : HGrow F h (takesS F h' k) (n + 2) := by
  obtain ⟨p, hp⟩ : ∃ p, h'.ps[k]? = some p := ⟨_, List.getElem?_eq_getElem (by rw [g.pl]; exact hk)⟩
  have dp : h'.ps.getD k pr0 = p := by rw [List.getD_eq_getElem?_getD, hp]; rfl
  unfold takesS
  rw [dp]
  exact g.step hp (takeA_grow ok (g.gp p (List.mem_of_getElem? hp)) fun l m => linesO_mem ok (List.mem_filter.mp m).1)
theorem goesS_grow {F : HFx} {h h' : HsD} {n k : Nat} (ok : SetOk F.S) (g : HGrow F h h' n) (hk : k < F.c) : HGrow F h (goesS F h' k) (n + 10) := by
  obtain ⟨p, hp⟩ : ∃ p, h'.ps[k]? = some p := ⟨_, List.getElem?_eq_getElem (by rw [g.pl]; exact hk)⟩
  have dp : h'.ps.getD k pr0 = p := by rw [List.getD_eq_getElem?_getD, hp]; rfl
  unfold goesS
  split
  · exact ⟨g.gp, g.pl, g.st, by have := g.sr; omega, by have := g.rg; omega, by have := g.ev; omega, fun m => by have := g.cn m; omega⟩
  · rw [dp]
    exact g.step hp (goOn_grow ok (g.gp p (List.mem_of_getElem? hp)))
theorem takesH_grow {F : HFx} {h : HsD} (ok : SetOk F.S) (g : HGrow F h h 0) : ∀ {ks : List Nat}, (∀ k ∈ ks, k < F.c) → HGrow F h (takesH F h ks) (2 * ks.length) := by
  intro ks
  induction ks using List.reverseRecOn' with
  | nil => intro _; exact g
  | snoc l x ih =>
    intro hm
    rw [takesH_snoc]
    have z := takesS_grow ok (ih fun k m => hm k (List.mem_append_left _ m)) (hm x (by simp))
    have e : 2 * (l ++ [x]).length = 2 * l.length + 2 := by simp; omega
    rw [e]
    exact z
theorem goesH_grow {F : HFx} {h : HsD} (ok : SetOk F.S) (g : HGrow F h h 0) : ∀ {n : Nat}, n ≤ F.c → HGrow F h (goesH F h n) (10 * n)
  | 0, _ => g
  | n + 1, hn => by
    rw [goesH_succ]
    exact goesS_grow ok (goesH_grow ok g (Nat.le_of_succ_le hn)) hn
theorem placesH_same {F : HFx} {h : HsD} : ∀ {ls : List LineD}, (placesH F h ls).ps = h.ps ∧ (placesH F h ls).sts = h.sts ∧ (placesH F h ls).wd = h.wd ∧ (placesH F h ls).bo.rg = h.bo.rg ∧ (placesH F h ls).ev.length ≤ h.ev.length + ls.length := by
  intro ls
  induction ls using List.reverseRecOn' with
  | nil => exact ⟨rfl, rfl, rfl, rfl, Nat.le_refl _⟩
  | snoc l x ih =>
    rw [placesH_snoc, List.length_append]
    obtain ⟨a, b, c, d, e⟩ := ih
    have z := placeS_ev (F := F) (h := placesH F h l) (l := x)
    have y : (placeS F (placesH F h l) x).ps = (placesH F h l).ps ∧ (placeS F (placesH F h l) x).sts = (placesH F h l).sts ∧ (placeS F (placesH F h l) x).wd = (placesH F h l).wd ∧ (placeS F (placesH F h l) x).bo.rg = (placesH F h l).bo.rg := by
      unfold placeS
      split
      · exact ⟨rfl, rfl, rfl, rfl⟩
      · split <;> exact ⟨rfl, rfl, rfl, rfl⟩
    exact ⟨y.1.trans a, y.2.1.trans b, y.2.2.1.trans c, y.2.2.2.trans d, by simp; omega⟩
theorem cut_drop {xs : List V} {n : Nat} (h : n ≤ xs.length) : cutV xs (some (n : Nat)) none = xs.drop n := by
  unfold cutV
  rw [HT.sIx_nat, HT.sIx_none, Nat.min_eq_left h]
  exact List.take_of_length_le (by rw [List.length_drop]; exact Nat.le_refl _)
def PreE (h h' : HsD) : Prop := ∃ l, h'.ev = h.ev ++ l
theorem PreE.refl (h : HsD) : PreE h h := ⟨[], (List.append_nil _).symm⟩
theorem PreE.tr {a b c : HsD} (x : PreE a b) (y : PreE b c) : PreE a c := by
  obtain ⟨l, e⟩ := x
  obtain ⟨m, f⟩ := y
  exact ⟨l ++ m, by rw [f, e, List.append_assoc]⟩
theorem placeS_pre {F : HFx} {h : HsD} {l : LineD} : PreE h (placeS F h l) := by
  unfold placeS
  split
  · exact PreE.refl h
  · split
    · exact PreE.refl h
    · exact ⟨_, rfl⟩
theorem noteH_pre {F : HFx} {h : HsD} {p : Nat} {e : Ev} : PreE h (noteH F h p e) := by
  cases e with
  | fin l => exact ⟨_, rfl⟩
  | dne n => exact ⟨_, rfl⟩
  | bgn l =>
    unfold noteH
    dsimp only
    split
    · exact ⟨_, List.append_assoc _ _ _⟩
    · exact ⟨_, rfl⟩
theorem fold_pre {α : Type} {f : HsD → α → HsD} (hf : ∀ h x, PreE h (f h x)) : ∀ (l : List α) (h : HsD), PreE h (l.foldl f h)
  | [], h => PreE.refl h
  | x :: l, h => (hf h x).tr (fold_pre hf l (f h x))
theorem PreE.of {h h1 h' : HsD} (e : h1.ev = h.ev) (p : PreE h1 h') : PreE h h' := by
  obtain ⟨l, x⟩ := p
  exact ⟨l, by rw [x, e]⟩
theorem tickH_pre {F : HFx} {h : HsD} : PreE h (tickH F h) := by
  have a : PreE h (tick1 F h) := fold_pre (fun _ _ => placeS_pre) _ _
  have n : ∀ (h : HsD) p es, PreE h (notesH F h p es) := fun h p es => fold_pre (fun _ _ => noteH_pre) _ _
  have b : PreE (tick1 F h) (tick2 F h) := fold_pre (fun h k => by
    unfold takesS
    exact PreE.of rfl (n _ _ _)) _ _
  have c : PreE (tick2 F h) (tick3 F h) := fold_pre (fun h k => by
    unfold goesS
    split
    · exact PreE.refl h
    · exact PreE.of rfl (n _ _ _)) _ _
  have d : PreE (tick3 F h) (tick4 F h) := fold_pre (fun h k => by
    unfold offS
    split
    · exact ⟨_, List.append_assoc _ _ _⟩
    · exact PreE.refl h) _ _
  obtain ⟨l, e⟩ := a.tr (b.tr (c.tr d))
  exact ⟨l, e⟩
theorem str_ne2 {x y : Str} : V.bl (!decide (V.str x = V.str y)) = V.bl (!decide (x = y)) := by
  by_cases e : x = y
  · subst e; simp
  · rw [decide_eq_false e, decide_eq_false fun q => e (V.str.inj q)]
def sp_House_tick (K : PySem.W.Frag) : Sp := fun vs H Q _ => ∃ (X : AdH) (F : HFx) (K0 : Hp) (h : HsD) (M : List (Addr × HO)), vs = [.ref X.hs] ∧ OwnH K X F K0 H h M ∧ runH F h ≠ [] ∧ (∀ p ∈ h.ps, PrG F.S p) ∧ sumR h.ps ≤ 40000 ∧ h.bo.rg.length ≤ 14000000 ∧ h.ev.length ≤ 200000 ∧ (∀ m, (h.wd.cnt m).length ≤ 700000) ∧
  ∀ K1 H' a evs, Same K0 K1 → OwnH K X F K1 H' (tickH F h) ((a, .lst evs) :: M) → Paired (HEvAt K K1) evs ((tickH F h).ev.drop h.ev.length) → Q (.ref a) H'

section
variable {P : Program} {w : World} {K : PySem.W.Frag} {mg : Str → Option Value} {base : Heap}

abbrev N_House_tick : List Str := ["self", "start", "at"]
theorem sc_House_tick : FnScope N_House_tick ["self"] (C8.fnScope s_House_tick) := C8.fnScope_by (by decide +kernel)
theorem ok_House_tick {fd : FuncData} (T : Txt K mg) (F : FunD K "tick" "House.tick" (C8.fnArgs s_House_tick) (C8.fnBody s_House_tick) (C8.fnScope s_House_tick) [] [] (He.ma K (aC "House" K) "tick") fd) (c_place_lines : C8.Met P w K mg base 9 (aC "House" K) "_place_lines" (sp_House_place_lines K) []) (c_running : C8.Met P w K mg base 1 (aC "House" K) "_running" (sp_House_running K) []) (c_take : C8.Met P w K mg base 16 (aC "Processor" K) "take" (sp_Processor_take K) []) (c_ready_on : C8.Met P w K mg base 4 (aC "HouseBoard" K) "ready_on" (sp_HouseBoard_ready_on K) []) (c_note_events : C8.Met P w K mg base 3 (aC "House" K) "_note_events" (sp_House_note_events K) []) (c_go_on : C8.Met P w K mg base 17 (aC "Processor" K) "go_on" (sp_Processor_go_on K) []) (c_let_go_off : C8.Met P w K mg base 6 (aC "House" K) "_let_go_off" (sp_House_let_go_off K) []) (c_pass_tick : C8.Met P w K mg base 1 (aC "HouseBoard" K) "pass_tick" (sp_HouseBoard_pass_tick K) []) :
    C8.Met P w K mg base 18 (aC "House" K) "tick" (sp_House_tick K) [] := by
  refine C8.met0 T.cl_House T.m_House_tick (fun_c8 F) (F.bindsN fun _ _ _ _ _ _ us hl => match us, hl with | [_], _ => rfl) sc_House_tick (fun vs H Q E h => ?_) (fun cdv A outer s H vs Q E hr h => ?_)
  · obtain ⟨_, _, _, _, _, rfl, _⟩ := h
    rfl
  · have nd := sc_House_tick.nd
    have hu := hu_of hr
    obtain ⟨X, F, K0, h, M, rfl, o, hne, hpg, hsr, hrg, hev, hcn, q⟩ := h
    refine ⟨_, (pss_cons (ps_set (i := 1) nd rfl (Or.inl rfl) (pe_callB call_len_seq (by rfl) T.n_len (by decide +kernel) (pa_cons (pe_fld (pv 0) rfl) pa_nil)))
      (pss_cons (ps_expr (C8.pe_mt0 c_place_lines hr (by decide) (pv 0)))
      (pss_cons (ps_for PassesOwn.never rfl (pi_list (C8.pe_mt0 c_running hr (by decide) (pv 0))) (pg_name (i := 2) nd rfl (Or.inl rfl)) (pss_one (ps_expr (C8.pe_mt c_note_events hr (by decide) (pv 0) (pa_cons (pv 2) (pa_cons (C8.pe_mt c_take hr (by decide) (pe_ix ix_list (pe_fld (pv 0) rfl) (pv 2) (fun _ _ => rfl)) (pa_cons (C8.pe_mt c_ready_on hr (by decide) (pe_fld (pv 0) rfl) (pa_cons (pv 2) pa_nil)) pa_nil)) pa_nil))))))
      (pss_cons (ps_for PassesOwn.never rfl (pi_range1 (by rfl) T.n_range (pa_cons (pe_fld (pv 0) rfl) pa_nil)) (pg_name (i := 2) nd rfl (Or.inl rfl)) (pss_one (ps_if (pt_cmpR op_ne (pe_ix ix_list (pe_fld (pv 0) rfl) (pv 2) (fun _ _ => rfl)) pe_str (nomark _)) (pss_one (ps_expr (C8.pe_mt c_note_events hr (by decide) (pv 0) (pa_cons (pv 2) (pa_cons (C8.pe_mt0 c_go_on hr (by decide) (pe_ix ix_list (pe_fld (pv 0) rfl) (pv 2) (fun _ _ => rfl))) pa_nil))))) pss_nil)))
      (pss_cons (ps_expr (C8.pe_mt0 c_let_go_off hr (by decide) (pv 0)))
      (pss_cons (ps_expr (C8.pe_mt0 c_pass_tick hr (by decide) (pe_fld (pv 0) rfl)))
      (pss_one (ps_ret (pe_slice sl_list (pe_fld (pv 0) rfl) (po_some (pv 1)) po_none))))))))), ?_⟩
    have ho := o.obj
    have ok := o.ok
    have hc6 := o.fx.c6
    obtain ⟨evv, ce, pe⟩ := o.c_ev
    have hel := pe.length
    refine ⟨_, rfl, _, _, _, _, _, rfl, ho, T.cl_House, T.t_House_events, rfl, _, _, rfl, .inl (l_of ce), ?_⟩
    rw [hel]
    refine ⟨_, rfl, X.hs, X.dh, _, rfl, ho, rfl, X, F, K0, h, M, rfl, o, by omega, fun K1 H1 s1 o1 => ?_⟩
    have ps1 := placesH_same (F := F) (h := h) (ls := freeLs F h)
    have fl12 : (freeLs F h).length ≤ 12 := Nat.le_trans (List.length_filter_le _ _) (linesO_len ok)
    have e1 : placesH F h (freeLs F h) = tick1 F h := rfl
    rw [e1] at o1 ps1
    obtain ⟨pa, pb, pc, pd, pf⟩ := ps1
    have g1 : HGrow F (tick1 F h) (tick1 F h) 0 := ⟨by rw [pa]; exact hpg, o1.pl, rfl, Nat.le_refl _, Nat.le_refl _, Nat.le_refl _, fun _ => Nat.le_refl _⟩
    have r1 : runH F (tick1 F h) = runH F h := run_congr fun j => by rw [pb]
    have rl : (runH F (tick1 F h)).length ≤ 6 := by
      have z := List.length_filter_le (isOn (tick1 F h).sts) (List.range F.c)
      rw [List.length_range] at z
      unfold runH
      omega
    have ho1 := o1.obj
    refine ⟨_, rfl, X.hs, X.dh, _, rfl, ho1, rfl, X, F, K1, tick1 F h, M, rfl, o1, fun L0 H2 g2 hL0 hL1 => ?_⟩
    obtain ⟨o2, s2⟩ := (o1.own' g2 hL0 hL1).freeze
    have hLk : upd K1 L0 (.lst (natV (runH F (tick1 F h)))) L0 = some (.lst (natV (runH F (tick1 F h)))) := upd_same
    generalize upd K1 L0 (.lst (natV (runH F (tick1 F h)))) = K2 at o2 s2 hLk
    refine ⟨_, rfl, ⟨_, l_of hL1⟩, ?_⟩
    refine for_it (walk_list (xs := natV (runH F (tick1 F h)))) (fun i σ H' => ∃ y2 K', σ = [some (.ref X.hs), some (.int (h.ev.length : Nat)), y2] ∧ Same K2 K' ∧ OwnH K X F K' H' (takesH F (tick1 F h) ((runH F (tick1 F h)).take i)) M) ⟨_, K2, rfl, Same.refl _, o2⟩ ?_ ?_ ?_
    · rintro i σ H' _ ⟨y2, K', _, g, o3⟩
      exact l_of (o3.ext _ _ (g _ _ hLk))
    · rintro i v σ H3 H4 hi ⟨y2, K', rfl, g, o3⟩ ⟨rfl, e2⟩
      obtain ⟨k, hk, rfl⟩ := natV_get e2
      have hkc := run_lt (List.mem_of_getElem? hk)
      have G := takesH_grow ok g1 (ks := (runH F (tick1 F h)).take i) fun k m => run_lt (List.mem_of_mem_take m)
      have lt : ((runH F (tick1 F h)).take i).length ≤ 6 := by rw [List.length_take]; omega
      rw [take_snoc hk, takesH_snoc]
      generalize takesH F (tick1 F h) ((runH F (tick1 F h)).take i) = h' at o3 G
      have b1 := G.sr
      have b2 := G.rg
      have b3 := G.ev
      have b4 := G.cn
      rw [pa] at b1
      rw [pd] at b2
      rw [pc] at b4
      have ho3 := o3.obj
      have hpa3 := o3.ext _ _ o3.fx.pl
      obtain ⟨P0, p0, M0, hP0, hp0, ow0, _⟩ := o3.same hkc
      have hPk : (X.prs.map V.ref)[k]? = some (.ref P0.pr) := by rw [List.getElem?_map, hP0]; rfl
      obtain ⟨M3, ob3, _⟩ := o3.board
      have hb3 := ob3.obj
      refine ⟨_, rfl, X.hs, X.dh, _, rfl, ho3, rfl, _, rfl, _, rfl, _, _, _, _, _, rfl, ho3, T.cl_House, T.t_House_processors, rfl, _, rfl, _, _, _, _, rfl, rfl, l_of hpa3, atIn hPk, P0.pr, P0.dp, _, rfl, ow0.prc, rfl, _, rfl, _, _, _, _, _, rfl, ho3, T.cl_House, T.t_House_board, rfl, X.B.bo, X.B.db, _, rfl, hb3, rfl, _, rfl, X.B, F.S, K', h'.bo, _, (k : Nat), rfl, ob3, fun a H5 g5 ha ha1 => ?_⟩
      obtain ⟨o5, s5⟩ := (o3.own' g5 ha ha1).freeze
      obtain ⟨P, p, M5, hP, hp, ow5, bk5⟩ := o5.proc hkc
      have epr : P.pr = P0.pr := by rw [hP0] at hP; exact (Option.some.inj hP).symm
      have dp : h'.ps.getD k pr0 = p := by rw [List.getD_eq_getElem?_getD, hp]; rfl
      have pg := G.gp p (List.mem_of_getElem? hp)
      have pl9 := pg.len ok
      have rp := sumR_le (List.mem_of_getElem? hp)
      have hls : ∀ l ∈ readyLs F h' k, l ∈ F.S.ls := fun l m => linesO_mem ok (List.mem_filter.mp m).1
      have TG := takeA_grow (b := h'.bo) ok pg hls
      refine ⟨X.B, P, F.S, _, h'.bo, p, _, a, readyLs F h' k, by rw [epr]; rfl, ow5, pg.calls, pg.ri, by omega, by omega, by omega, upd_same, hls, fun K6 H6 ea ev s6 ow6 pe6 => ?_⟩
      have o6 := bk5 K6 H6 (takeA F.S.ws h'.bo p (readyLs F h' k)).1 P (takeA F.S.ws h'.bo p (readyLs F h' k)).2.1 ((ea, .lst ev) :: M) s6 rfl ow6
      have tel := TG.el
      refine ⟨X, F, K6, _, _, k, ea, ev, (takeA F.S.ws h'.bo p (readyLs F h' k)).2.2, rfl, o6, fun K7 H7 h7 s7 o7 => o7.fr, pe6, TG.ei, by omega, ?_, fun m => ?_, fun K7 H7 s7 o7 => ⟨_, K7, rfl, Same.tr g (Same.tr s5 (Same.tr s6 s7)), ?_⟩⟩
      · show h'.ev.length ≤ _
        omega
      · show (h'.wd.cnt m).length ≤ _
        have := b4 m
        have := hcn m
        omega
      · unfold takesS
        rw [dp]
        exact o7.tail
    rintro σ H3 ⟨y2, K3, rfl, g3, o3⟩
    rw [List.take_of_length_le (by rw [natV_len]; exact Nat.le_refl _)] at o3
    have e3 : takesH F (tick1 F h) (runH F (tick1 F h)) = tick2 F h := rfl
    rw [e3] at o3
    have G2 := takesH_grow ok g1 (ks := runH F (tick1 F h)) fun k m => run_lt m
    rw [e3] at G2
    have gg2 : HGrow F (tick2 F h) (tick2 F h) 0 := ⟨G2.gp, G2.pl, rfl, Nat.le_refl _, Nat.le_refl _, Nat.le_refl _, fun _ => Nat.le_refl _⟩
    have c1 := G2.sr
    have c2 := G2.rg
    have c3 := G2.ev
    have c4 := G2.cn
    rw [pa] at c1
    rw [pd] at c2
    rw [pc] at c4
    have ho3 := o3.obj
    refine ⟨_, rfl, _, _, _, _, _, rfl, ho3, T.cl_House, T.t_House_count, rfl, (F.c : Nat), rfl, by omega, by omega, ?_⟩
    refine for_it (walk_range (lo := 0) (n := ((F.c : Nat) : Int).toNat)) (fun i σ H' => ∃ y2 K', σ = [some (.ref X.hs), some (.int (h.ev.length : Nat)), y2] ∧ Same K3 K' ∧ OwnH K X F K' H' (goesH F (tick2 F h) i) M) ⟨_, K3, rfl, Same.refl _, o3⟩ (fun _ _ _ _ _ => trivial) ?_ ?_
    · rintro k v σ H4 H5 hi ⟨y2, K', rfl, g, o4⟩ ⟨rfl, rfl⟩
      have hkc : k < F.c := by simpa using hi
      have G := goesH_grow ok gg2 (Nat.le_of_lt hkc)
      rw [goesH_succ]
      generalize goesH F (tick2 F h) k = h' at o4 G
      have b1 := G.sr
      have b2 := G.rg
      have b3 := G.ev
      have b4 := G.cn
      have e0 : (0 : Int) + (k : Nat) = (k : Nat) := Int.zero_add _
      show gName 2 (V.int (0 + (k : Nat))) _ _ _
      rw [e0]
      have ho4 := o4.obj
      have csa := o4.c_sa
      obtain ⟨x, hx⟩ : ∃ x, h'.sts[k]? = some x := ⟨_, List.getElem?_eq_getElem (by rw [o4.sl]; exact hkc)⟩
      have hxd : h'.sts.getD k "off" = x := by rw [List.getD_eq_getElem?_getD, hx]; rfl
      refine ⟨_, rfl, _, _, _, _, _, rfl, ho4, T.cl_House, T.t_House_states, rfl, _, rfl, _, _, _, _, rfl, rfl, l_of csa, atIn (stV_at hx), rfl, !decide (x = "off"), str_ne2, ?_⟩
      by_cases ex : x = "off"
      · rw [decide_eq_true ex]
        have e : goesS F h' k = h' := by unfold goesS; rw [hxd]; exact if_pos ex
        rw [e]
        exact iteF ⟨_, K', rfl, g, o4⟩
      rw [decide_eq_false ex]
      refine iteT ?_
      have hpa4 := o4.ext _ _ o4.fx.pl
      obtain ⟨P, p, M5, hP, hp, ow5, bk5⟩ := o4.proc hkc
      have hPk : (X.prs.map V.ref)[k]? = some (.ref P.pr) := by rw [List.getElem?_map, hP]; rfl
      have dp : h'.ps.getD k pr0 = p := by rw [List.getD_eq_getElem?_getD, hp]; rfl
      have pg := G.gp p (List.mem_of_getElem? hp)
      have pl9 := pg.len ok
      have rp := sumR_le (List.mem_of_getElem? hp)
      have TG := goOn_grow (b := h'.bo) ok pg
      refine ⟨_, rfl, X.hs, X.dh, _, rfl, ho4, rfl, _, rfl, _, rfl, _, _, _, _, _, rfl, ho4, T.cl_House, T.t_House_processors, rfl, _, rfl, _, _, _, _, rfl, rfl, l_of hpa4, atIn hPk, P.pr, P.dp, _, rfl, ow5.prc, rfl, X.B, P, F.S, K', h'.bo, p, _, rfl, ow5, pg.calls, pg.ri, by omega, by omega, by omega, fun K6 H6 ea ev s6 ow6 hea pe6 => ?_⟩
      have o6 := bk5 K6 H6 (goOn F.S.ws h'.bo p).1 P (goOn F.S.ws h'.bo p).2.1 M s6 rfl ow6
      have tel := TG.el
      refine ⟨X, F, K6, _, _, k, ea, ev, (goOn F.S.ws h'.bo p).2.2, rfl, o6, fun K7 H7 h7 s7 o7 => o7.ext _ _ (s7 _ _ hea), pe6, TG.ei, by omega, ?_, fun m => ?_, fun K7 H7 s7 o7 => ⟨_, K7, rfl, Same.tr g (Same.tr s6 s7), ?_⟩⟩
      · show h'.ev.length ≤ _
        omega
      · show (h'.wd.cnt m).length ≤ _
        have := b4 m
        have := c4 m
        have := hcn m
        omega
      · unfold goesS
        rw [hxd, if_neg ex, dp]
        exact o7
    rintro σ H4 ⟨y2, K4, rfl, g4, o4⟩
    have e4 : goesH F (tick2 F h) ((F.c : Nat) : Int).toNat = tick3 F h := by rw [Int.toNat_natCast]; rfl
    rw [e4] at o4
    have G3 := goesH_grow ok gg2 (Nat.le_refl F.c)
    have e5 : goesH F (tick2 F h) F.c = tick3 F h := rfl
    rw [e5] at G3
    have d1 := G3.sr
    have d2 := G3.rg
    have d3 := G3.ev
    have ho4 := o4.obj
    have r3 : runH F (tick3 F h) ≠ [] := by
      have : runH F (tick3 F h) = runH F h := run_congr fun j => by rw [G3.st, G2.st, pb]
      rw [this]
      exact hne
    refine ⟨_, rfl, X.hs, X.dh, _, rfl, ho4, rfl, X, F, K4, tick3 F h, M, rfl, o4, r3, fun p hp => ⟨(G3.gp p hp).ri, ?_⟩, by omega, by omega, fun K5 H5 s5 o5 => ?_⟩
    · have := (G3.gp p hp).len ok
      omega
    have e6 : offsH F (tick3 F h) F.c = tick4 F h := rfl
    rw [e6] at o5
    have ho5 := o5.obj
    obtain ⟨M5, ob5, bk5⟩ := o5.board
    have hb5 := ob5.obj
    refine ⟨_, rfl, _, _, _, _, _, rfl, ho5, T.cl_House, T.t_House_board, rfl, X.B.bo, X.B.db, _, rfl, hb5, rfl, X.B, F.S, K5, (tick4 F h).bo, M ++ M5, rfl, ob5, fun H6 ob6 => ?_⟩
    have o6 := bk5 K5 H6 _ M (Same.refl _) ob6
    have e7 : { tick4 F h with bo := tickB (tick4 F h).bo } = tickH F h := rfl
    rw [e7] at o6
    have ho6 := o6.obj
    obtain ⟨ev6, ce6, pe6⟩ := o6.c_ev
    refine ⟨_, rfl, _, _, _, _, _, rfl, ho6, T.cl_House, T.t_House_events, rfl, _, rfl, _, rfl, _, _, rfl, l_of ce6, fun a ha => ?_⟩
    have hl6 := pe6.length
    obtain ⟨lx, elx⟩ := tickH_pre (F := F) (h := h)
    have hle : h.ev.length ≤ ev6.length := by rw [hl6, elx, List.length_append]; omega
    rw [cut_drop hle]
    exact q K5 _ a _ (Same.tr s1 (Same.tr s2 (Same.tr g3 (Same.tr g4 s5)))) (o6.own' (same_new (Same.refl _) ha) ha upd_same) (pdrop pe6 _)
end
end Cb

namespace Cb
open PySem PySem.Spec PyProof.Rows L2

def sp_Setup_lines (K : PySem.W.Frag) : Sp := fun vs H Q _ => ∃ (su : Addr) (S : SetD) (K0 : Hp), vs = [.ref su] ∧ SetupAt K K0 su S ∧ Same K0 H ∧ ∀ la, LinesAt K K0 la S.ls → Q (.ref la) H
theorem rep_on {c : Nat} : (List.replicate ((c : Nat) : Int).toNat [V.str "on"]).flatten = stV (List.replicate c "on") := by
  rw [Int.toNat_natCast]
  unfold stV
  induction c with
  | zero => rfl
  | succ n ih => rw [List.replicate_succ, List.flatten_cons, ih, List.replicate_succ, List.map_cons]; rfl
theorem perm7 {α : Type} (ev dt bt st cn un tu : α) (B : List α) : (([ev, dt, bt] : List α) ++ ([st, cn, un, tu] ++ B)).Perm ([tu, st, cn, un, bt, dt, ev] ++ B) := by
  rw [← List.append_assoc]
  refine List.Perm.append_right B ?_
  have h1 : (([ev, dt, bt] : List α) ++ [st, cn, un, tu]).Perm ([st, cn, un, tu] ++ [ev, dt, bt]) := List.perm_append_comm
  have h2 : (([st, cn, un] : List α) ++ [tu]).Perm ([tu] ++ [st, cn, un]) := List.perm_append_comm
  have h3 : (([st, cn, un, tu] : List α) ++ [ev, dt, bt]).Perm (([tu] ++ [st, cn, un]) ++ [bt, dt, ev]) := List.Perm.append h2 (List.reverse_perm [bt, dt, ev])
  exact h1.trans h3
theorem rtOf_ok {S : SetD} {c : Nat} {n : Str} (c1 : 1 ≤ c) (c6 : c ≤ 6) : ∀ {rs : List RouteD}, RoutesOk S c rs → RtOk c (rtOf c rs n) := by
  intro rs
  induction rs using List.reverseRecOn' with
  | nil =>
    intro _
    refine ⟨(show ("first" : Str) ∈ RULES by decide +kernel), ?_, fun k m => List.mem_range.mp m, List.nodup_range, by show (List.range c).length ≤ 6; rw [List.length_range]; exact c6⟩
    show List.range c ≠ []
    intro e
    have := congrArg List.length e
    rw [List.length_range] at this
    simp at this
    omega
  | snoc l x ih =>
    intro h
    have h2 : RoutesOk S c l := ⟨fun r m => h.ok r (List.mem_append_left _ m), by
      have z := h.nd
      rw [List.map_append] at z
      exact (List.nodup_append.mp z).1⟩
    have e : rtOf c (l ++ [x]) = gset (rtOf c l) x.name ⟨x.rule, x.stops⟩ := by unfold rtOf; rw [List.foldl_append]; rfl
    rw [e]
    unfold gset
    split
    · exact (h.ok x (by simp)).2
    · exact ih h2
def hs0 (S : SetD) (c : Nat) : HsD := ⟨bdS S, List.replicate c pr0, List.replicate c "on", fun _ => 0, wd0, fun _ => 0, fun _ => 0, []⟩
def sp_House_init (K : PySem.W.Frag) : Sp := fun vs H Q _ => ∃ (x dx su : Addr) (S : SetD) (c : Nat) (ra sa : Addr) (rs : List RouteD) (ds : List StormD) (K0 : Hp) (M : List (Addr × HO)), vs = [.ref x, .ref su, .int (c : Nat), .ref ra, .ref sa] ∧ Sep K0 H ((x, .ins (aC "House" K) dx []) :: M) ∧ SetupAt K K0 su S ∧ SetOk S ∧ 1 ≤ c ∧ c ≤ 6 ∧ RoutesAt K K0 ra rs ∧ RoutesOk S c rs ∧ StormsAt K K0 sa ds ∧ StormsOk S ds ∧
  ∀ K1 H' X, Same K0 K1 → X.hs = x → X.B.su = su → X.rtA = ra → X.stA = sa → OwnH K X ⟨S, c, rtOf c rs, ds⟩ K1 H' (hs0 S c) M → Q .non H'

section
variable {P : Program} {w : World} {K : PySem.W.Frag} {mg : Str → Option Value} {base : Heap}

abbrev N_Setup_lines : List Str := ["self"]
theorem sc_Setup_lines : FnScope N_Setup_lines ["self"] (C8.fnScope s_Setup_lines) := C8.fnScope_by (by decide +kernel)
theorem ok_Setup_lines {fd : FuncData} (T : Txt K mg) (F : FunD K "lines" "Setup.lines" (C8.fnArgs s_Setup_lines) (C8.fnBody s_Setup_lines) (C8.fnScope s_Setup_lines) [] [] (prA "Setup" "lines" K) fd) :
    FnP P w K mg base 1 (prA "Setup" "lines" K) (sp_Setup_lines K) := by
  refine fnP_mk (fun_c8 F) (F.bindsN fun _ _ _ _ _ _ us hl => match us, hl with | [_], _ => rfl) sc_Setup_lines (fun vs H Q E h => ?_) (fun cdv A outer s H vs Q E hr h => ?_)
  · obtain ⟨_, _, _, rfl, _⟩ := h
    rfl
  · have nd := sc_Setup_lines.nd
    have hu := hu_of hr
    obtain ⟨su, S, K0, rfl, hS, g, q⟩ := h
    refine ⟨_, (pss_one (ps_ret (pe_fld (pv 0) rfl))), ?_⟩
    obtain ⟨dx, la, wa, bn, oa, xs, h1, h2, h3, _⟩ := hS.ex
    exact ⟨_, rfl, _, _, _, _, _, rfl, g _ _ h1, T.cl_Setup, T.t_Setup_lines, rfl, q la h2⟩
abbrev N_House_init : List Str := ["self", "setup", "count", "routes", "storms", "_", "line", "work"]
theorem sc_House_init : FnScope N_House_init ["self", "setup", "count", "routes", "storms"] (C8.fnScope s_House_init) := C8.fnScope_by (by decide +kernel)
theorem fnok_House_init {fd : FuncData} {kws : List (Str × V)} (T : Txt K mg) (F : FunD K "__init__" "House.__init__" (C8.fnArgs s_House_init) (C8.fnBody s_House_init) (C8.fnScope s_House_init) [] kws (He.ma K (aC "House" K) "__init__") fd) (c_check_house : C8.Cal P w K mg base 5 "check_house" (sp_check_house K) []) (c_HouseBoard : C8.Mak P w K mg base 5 "HouseBoard" (aC "HouseBoard" K) (sp_HouseBoard_init K) []) (c_Router : C8.Mak P w K mg base 3 "Router" (aC "Router" K) (sp_Router_init K) []) (c_StormWatch : C8.Mak P w K mg base 1 "StormWatch" (aC "StormWatch" K) (sp_StormWatch_init K) []) (c_Processor : C8.Mak P w K mg base 4 "Processor" (aC "Processor" K) (sp_Processor_init K) []) (c_lines : FnP P w K mg base 1 (prA "Setup" "lines" K) (sp_Setup_lines K)) (c_works : FnP P w K mg base 1 (prA "Setup" "works" K) (sp_Setup_works K)) :
    FnOk P w K mg base C8.CX0 8 (He.ma K (aC "House" K) "__init__") fd ["self", "setup", "count", "routes", "storms"] (sp_House_init K) := by
  refine C8.fn0 (fun_c8 F) sc_House_init (fun vs H Q E h => ?_) (fun cdv A outer s H vs Q E hr h => ?_)
  · obtain ⟨_, _, _, _, _, _, _, _, _, _, _, rfl, _⟩ := h
    rfl
  · have nd := sc_House_init.nd
    have hu := hu_of hr
    obtain ⟨x, dx, su, S, c, ra, sa, rs, ds, K0, M, rfl, sp, hS, ok, c1, c6, hR, rok, hW, wok, q⟩ := h
    obtain ⟨pl, hpl⟩ := T.p_Setup_lines
    obtain ⟨pw, hpw⟩ := T.p_Setup_works
    refine ⟨_, (pss_cons (ps_expr (C8.pe_c c_check_house hr (by decide) rfl (pa_cons (pv 1) (pa_cons (pv 2) (pa_cons (pv 3) (pa_cons (pv 4) pa_nil))))))
      (pss_cons (ps_fld (pv 0) (pv 1) rfl)
      (pss_cons (ps_fld (pv 0) (pv 2) rfl)
      (pss_cons (ps_fld (pv 0) (pv 3) rfl)
      (pss_cons (ps_fld (pv 0) (pv 4) rfl)
      (pss_cons (ps_fld (pv 0) (C8.pe_mk c_HouseBoard hr (by decide) rfl (pa_cons (pv 1) pa_nil)) rfl)
      (pss_cons (ps_fld (pv 0) (C8.pe_mk c_Router hr (by decide) rfl (pa_cons (pv 1) (pa_cons (pv 2) (pa_cons (pv 3) pa_nil)))) rfl)
      (pss_cons (ps_fld (pv 0) (C8.pe_mk c_StormWatch hr (by decide) rfl (pa_cons (pv 4) pa_nil)) rfl)
      (pss_cons (ps_fld (pv 0) (pe_op op_rep (pe_lst (pa_cons pe_str pa_nil)) (pv 2)) rfl)
      (pss_cons (ps_fld (pv 0) (pe_lc (own := [("_", 5)]) rfl nd (pi_range1 (by rfl) T.n_range (pa_cons (pv 2) pa_nil)) (blkOk_by (own := [("_", 5)]) (N := N_House_init) (sc := (C8.fnScope s_House_init)) (by decide +kernel)) (fun _ _ _ _ _ => (pg_name (i := 5) nd rfl (Or.inl rfl))) (fun _ _ _ _ _ => pts_nil) (fun _ _ _ _ _ => (C8.pe_mk c_Processor hr (by decide) rfl (pa_cons (pv 1) (pa_cons (pe_fld (pv 0) rfl : PE _ _ (tFld K _ _)) pa_nil))))) rfl)
      (pss_cons (ps_fld (pv 0) (pe_dc (own := [("line", 6)]) rfl nd (pi_tup (C_prop hpl T.cl_Setup c_lines hr (by decide) (pv 1))) (blkOk_by (own := [("line", 6)]) (N := N_House_init) (sc := (C8.fnScope s_House_init)) (by decide +kernel)) (fun _ _ _ _ _ => (pg_name (i := 6) nd rfl (Or.inl rfl))) (fun _ _ _ _ _ => pts_nil) (fun _ _ _ _ _ => (pe_ix (ix_tup : IxR _ (rIxT K)) (pv 6) pe_int (fun _ _ => rfl))) (fun _ _ _ _ _ => pe_int)) rfl)
      (pss_cons (ps_fld (pv 0) (pe_dc (own := [("work", 7)]) rfl nd (pi_tup (C_prop hpw T.cl_Setup c_works hr (by decide) (pv 1))) (blkOk_by (own := [("work", 7)]) (N := N_House_init) (sc := (C8.fnScope s_House_init)) (by decide +kernel)) (fun _ _ _ _ _ => (pg_name (i := 7) nd rfl (Or.inl rfl))) (fun _ _ _ _ _ => pts_nil) (fun _ _ _ _ _ => (pe_ix (ix_tup : IxR _ (rIxT K)) (pv 7) pe_int (fun _ _ => rfl))) (fun _ _ _ _ _ => pe_int)) rfl)
      (pss_one (ps_fld (pv 0) (pe_lst pa_nil) rfl)))))))))))))), ?_⟩
    have hsl : ∀ r ∈ ds, r.name ∈ S.order := fun r m => (wok.ok r m).1
    have ds12 : ds.length ≤ 12 := by
      have z := sub_len wok.nd fun n hn => by obtain ⟨r, hr, rfl⟩ := List.mem_map.mp hn; exact hsl r hr
      have y := ok.len
      simp [stN] at z
      omega
    refine ⟨_, rfl, _, rfl, _, rfl, _, rfl, su, S, c, ra, sa, rs, ds, rfl, SetupAt.up sp.ext hS, ok, c1, c6, RoutesAt.up sp.ext hR, rok, StormsAt.up sp.ext hW, wok, fun H1 g1 => ?_⟩
    have t0 := sp.grow g1
    refine ⟨_, rfl, _, rfl, _, _, _, _, rfl, t0.c0, T.cl_House, T.t_House_setup, (by simp), ?_⟩
    have t1 := t0.put0 (o' := .ins (aC "House" K) dx [("_setup", .ref su)])
    refine ⟨_, rfl, _, rfl, _, _, _, _, rfl, t1.c0, T.cl_House, T.t_House_count, (by simp), ?_⟩
    have t2 := t1.put0 (o' := .ins (aC "House" K) dx [("_setup", .ref su), ("_count", .int (c : Nat))])
    refine ⟨_, rfl, _, rfl, _, _, _, _, rfl, t2.c0, T.cl_House, T.t_House_routes, (by simp), ?_⟩
    have t3 := t2.put0 (o' := .ins (aC "House" K) dx [("_setup", .ref su), ("_count", .int (c : Nat)), ("_routes", .ref ra)])
    refine ⟨_, rfl, _, rfl, _, _, _, _, rfl, t3.c0, T.cl_House, T.t_House_storms, (by simp), ?_⟩
    have t4 := t3.put0 (o' := .ins (aC "House" K) dx [("_setup", .ref su), ("_count", .int (c : Nat)), ("_routes", .ref ra), ("_storms", .ref sa)])
    refine ⟨_, rfl, fun xb db hxb hdb hne => ?_⟩
    have t5 := t4.obj (o := .own xb) (o' := .ins (aC "HouseBoard" K) db []) hxb hdb hne
    refine ⟨xb, db, su, S, K0, _, rfl, t5, hS, ok, fun H2 A eb es ob => ⟨rfl, ?_⟩⟩
    subst eb es
    refine ⟨_, rfl, _, _, _, _, rfl, OwnB.fr ob, T.cl_House, T.t_House_board, (by simp), ?_⟩
    have ob1 := OwnB.putM (y := .ins (aC "House" K) dx [("_setup", .ref A.su), ("_count", .int (c : Nat)), ("_routes", .ref ra), ("_storms", .ref sa), ("_board", .ref A.bo)]) ob
    obtain ⟨L, sp1, bk1⟩ := ob1.lens
    have sp1 : Sep K0 _ ((x, .ins (aC "House" K) dx [("_setup", .ref A.su), ("_count", .int (c : Nat)), ("_routes", .ref ra), ("_storms", .ref sa), ("_board", .ref A.bo)]) :: (M ++ L)) := sp1
    refine ⟨_, rfl, _, rfl, _, rfl, fun xr dr hxr hdr hne2 => ?_⟩
    have t7 := sp1.obj (o := .own xr) (o' := .ins (aC "Router" K) dr []) hxr hdr hne2
    refine ⟨xr, dr, A.su, S, c, ra, rs, K0, _, rfl, t7, hS, ok, c6, hR, (fun r m => (rok.ok r m).1), fun K1 H4 R s1 er rk s4 => ⟨rfl, ?_⟩⟩
    subst er
    refine ⟨_, rfl, _, _, _, _, rfl, s4.c1, T.cl_House, T.t_House_router, (by simp), ?_⟩
    have t8 := s4.swap.put0 (o' := .ins (aC "House" K) dx [("_setup", .ref A.su), ("_count", .int (c : Nat)), ("_routes", .ref ra), ("_storms", .ref sa), ("_board", .ref A.bo), ("_router", .ref R.ro)])
    refine ⟨_, rfl, fun xw dw hxw hdw hne3 => ?_⟩
    have t9 := t8.obj (o := .own xw) (o' := .ins (aC "StormWatch" K) dw []) hxw hdw hne3
    refine ⟨xw, dw, sa, ds, K1, _, rfl, t9, StormsAt.up s1 hW, wok.nd, ds12, fun K2 H5 W s2 ew ow => ⟨rfl, ?_⟩⟩
    subst ew
    obtain ⟨g, hg, s5⟩ := ow.ex
    have wk := ow.wk
    refine ⟨_, rfl, _, _, _, _, rfl, s5.c2, T.cl_House, T.t_House_watch, (by simp), ?_⟩
    have t10 := s5.rot3.put0 (o' := .ins (aC "House" K) dx [("_setup", .ref A.su), ("_count", .int (c : Nat)), ("_routes", .ref ra), ("_storms", .ref sa), ("_board", .ref A.bo), ("_router", .ref R.ro), ("_watch", .ref W.wo)])
    refine ⟨small8 (by simp), fun l hl => ?_⟩
    have t11 := t10.drop (o := .lst [.str "on"]) hl
    refine ⟨_, rfl, l, (c : Nat), [.str "on"], rfl, rfl, upd_same, by omega, by omega, by simp [sizeLine_eq]; omega, fun st hst => ?_⟩
    have t12 := (t11.own (o := .lst (List.replicate ((c : Nat) : Int).toNat [V.str "on"]).flatten) hst).swap
    rw [rep_on] at t12
    refine ⟨_, rfl, _, _, _, _, rfl, by rw [rep_on]; exact t12.c0, T.cl_House, T.t_House_states, (by simp), ?_⟩
    rw [rep_on]
    have t13 := t12.put0 (o' := .ins (aC "House" K) dx [("_setup", .ref A.su), ("_count", .int (c : Nat)), ("_routes", .ref ra), ("_storms", .ref sa), ("_board", .ref A.bo), ("_router", .ref R.ro), ("_watch", .ref W.wo), ("_states", .ref st)])
    have g02 : Same K0 K2 := Same.tr s1 s2
    have obG : OwnB K A S K2 _ (bdS S) ((x, .ins (aC "House" K) dx [("_setup", .ref A.su), ("_count", .int (c : Nat)), ("_routes", .ref ra), ("_storms", .ref sa), ("_board", .ref A.bo), ("_router", .ref R.ro), ("_watch", .ref W.wo), ("_states", .ref st)]) :: (st, .lst (stV (List.replicate c "on"))) :: (W.cn, .dK (gd (stN ds) fun n => .ref (g n))) :: (W.un, .dK (md (stN ds) wd0.unt)) :: (R.tu, .dK (md S.order (tnV fun _ => 0))) :: M) := bk1 K2 _ ((x, .ins (aC "House" K) dx [("_setup", .ref A.su), ("_count", .int (c : Nat)), ("_routes", .ref ra), ("_storms", .ref sa), ("_board", .ref A.bo), ("_router", .ref R.ro), ("_watch", .ref W.wo), ("_states", .ref st)]) :: (st, .lst (stV (List.replicate c "on"))) :: (W.cn, .dK (gd (stN ds) fun n => .ref (g n))) :: (W.un, .dK (md (stN ds) wd0.unt)) :: (R.tu, .dK (md S.order (tnV fun _ => 0))) :: M) g02 t13
    clear t0 t1 t2 t3 t4 t5 t7 t8 t9 t10 t11 t12 t13
    refine ⟨_, rfl, (c : Nat), rfl, by omega, by omega, fun D hD => ?_⟩
    have obD := obG.ownM' (same_new (Same.refl _) hD) hD (upd_same (o := HO.lst []))
    have h0 : OwnB K A S K2 _ (bdS S) ((D, .lst (([] : List PQ).map fun q => V.ref q.P.pr)) :: (x, .ins (aC "House" K) dx [("_setup", .ref A.su), ("_count", .int (c : Nat)), ("_routes", .ref ra), ("_storms", .ref sa), ("_board", .ref A.bo), ("_router", .ref R.ro), ("_watch", .ref W.wo), ("_states", .ref st)]) :: (([] : List PQ).flatMap (PQ.cells K A) ++ ((st, .lst (stV (List.replicate c "on"))) :: (W.cn, .dK (gd (stN ds) fun n => .ref (g n))) :: (W.un, .dK (md (stN ds) wd0.unt)) :: (R.tu, .dK (md S.order (tnV fun _ => 0))) :: M))) := obD
    refine lc_it (walk_range (lo := 0) (n := ((c : Nat) : Int).toNat)) (fun i H' => ∃ (K' : Hp) (qs : List PQ), Same K2 K' ∧ qs.length = i ∧ (∀ q ∈ qs, PQ.Ok K S K' q ∧ q.p = pr0) ∧ OwnB K A S K' H' (bdS S) ((D, .lst (qs.map fun q => V.ref q.P.pr)) :: (x, .ins (aC "House" K) dx [("_setup", .ref A.su), ("_count", .int (c : Nat)), ("_routes", .ref ra), ("_storms", .ref sa), ("_board", .ref A.bo), ("_router", .ref R.ro), ("_watch", .ref W.wo), ("_states", .ref st)]) :: (qs.flatMap (PQ.cells K A) ++ ((st, .lst (stV (List.replicate c "on"))) :: (W.cn, .dK (gd (stN ds) fun n => .ref (g n))) :: (W.un, .dK (md (stN ds) wd0.unt)) :: (R.tu, .dK (md S.order (tnV fun _ => 0))) :: M)))) ⟨K2, [], Same.refl _, rfl, (fun q m => by cases m), h0⟩ (fun _ _ _ _ => trivial) ?_ ?_
    · rintro i v H6 H7 hi ⟨K', qs, gK, hq, hok, ob6⟩ ⟨rfl, rfl⟩
      have hx6 := OwnB.fr (ob6.permM (List.Perm.swap _ _ _))
      refine ⟨rfl, _, rfl, _, rfl, _, _, _, _, _, rfl, hx6, T.cl_House, T.t_House_board, rfl, fun xp dp hxp hdp hne4 => ?_⟩
      obtain ⟨L6, sp6, bk6⟩ := ob6.lens
      have ob7 := bk6 K' _ ((xp, .ins (aC "Processor" K) dp []) :: (D, .lst (qs.map fun q => V.ref q.P.pr)) :: (x, .ins (aC "House" K) dx [("_setup", .ref A.su), ("_count", .int (c : Nat)), ("_routes", .ref ra), ("_storms", .ref sa), ("_board", .ref A.bo), ("_router", .ref R.ro), ("_watch", .ref W.wo), ("_states", .ref st)]) :: (qs.flatMap (PQ.cells K A) ++ ((st, .lst (stV (List.replicate c "on"))) :: (W.cn, .dK (gd (stN ds) fun n => .ref (g n))) :: (W.un, .dK (md (stN ds) wd0.unt)) :: (R.tu, .dK (md S.order (tnV fun _ => 0))) :: M))) (Same.refl _) (sp6.obj (o := .own xp) hxp hdp hne4)
      refine ⟨xp, dp, A, S, K', bdS S, _, rfl, ob7, fun K7 H8 P s7 ep ow7 => ⟨rfl, ?_⟩⟩
      subst ep
      obtain ⟨sv, rv, h1, h2, ob8⟩ := ow7.ex
      have ok9 : ∀ q ∈ qs ++ [(⟨P, pr0, sv, rv⟩ : PQ)], PQ.Ok K S K7 q ∧ q.p = pr0 := fun q m => by
        rcases List.mem_append.mp m with m | m
        · exact ⟨(hok q m).1.up s7, (hok q m).2⟩
        · rw [List.mem_singleton.mp m]
          exact ⟨⟨ow7.fj, h1, h2⟩, rfl⟩
      have pm : ∀ (d : Addr × HO), (d :: (x, .ins (aC "House" K) dx [("_setup", .ref A.su), ("_count", .int (c : Nat)), ("_routes", .ref ra), ("_storms", .ref sa), ("_board", .ref A.bo), ("_router", .ref R.ro), ("_watch", .ref W.wo), ("_states", .ref st)]) :: ((qs ++ [(⟨P, pr0, sv, rv⟩ : PQ)]).flatMap (PQ.cells K A) ++ ((st, .lst (stV (List.replicate c "on"))) :: (W.cn, .dK (gd (stN ds) fun n => .ref (g n))) :: (W.un, .dK (md (stN ds) wd0.unt)) :: (R.tu, .dK (md S.order (tnV fun _ => 0))) :: M))).Perm (PQ.cells K A ⟨P, pr0, sv, rv⟩ ++ (d :: (x, .ins (aC "House" K) dx [("_setup", .ref A.su), ("_count", .int (c : Nat)), ("_routes", .ref ra), ("_storms", .ref sa), ("_board", .ref A.bo), ("_router", .ref R.ro), ("_watch", .ref W.wo), ("_states", .ref st)]) :: (qs.flatMap (PQ.cells K A) ++ ((st, .lst (stV (List.replicate c "on"))) :: (W.cn, .dK (gd (stN ds) fun n => .ref (g n))) :: (W.un, .dK (md (stN ds) wd0.unt)) :: (R.tu, .dK (md S.order (tnV fun _ => 0))) :: M)))) := fun d => by
        rw [List.flatMap_append, List.flatMap_cons, List.flatMap_nil, List.append_nil, List.append_assoc]
        exact List.perm_append_comm_assoc (d :: (x, .ins (aC "House" K) dx [("_setup", .ref A.su), ("_count", .int (c : Nat)), ("_routes", .ref ra), ("_storms", .ref sa), ("_board", .ref A.bo), ("_router", .ref R.ro), ("_watch", .ref W.wo), ("_states", .ref st)]) :: qs.flatMap (PQ.cells K A)) _ _
      have ob9 := OwnB.permM ob8 (pm (D, .lst (qs.map fun q => V.ref q.P.pr)))
      have e9 : (qs.map fun q => V.ref q.P.pr) ++ [V.ref P.pr] = (qs ++ [(⟨P, pr0, sv, rv⟩ : PQ)]).map fun q => V.ref q.P.pr := by rw [List.map_append]; rfl
      have hi6 : i < c := by simpa using hi
      refine ⟨_, OwnB.fr ob9, sm6 (by rw [List.length_map]; omega), K7, qs ++ [⟨P, pr0, sv, rv⟩], Same.tr gK s7, by rw [List.length_append, hq]; rfl, ok9, ?_⟩
      rw [e9]
      exact OwnB.putM ob9
    rintro H6 ⟨K3, qs, g3, hq, hok, ob6⟩
    have hq : qs.length = c := by rw [hq, Int.toNat_natCast]
    have g03 := Same.tr g02 g3
    have obH := ob6.permM (M' := (x, .ins (aC "House" K) dx [("_setup", .ref A.su), ("_count", .int (c : Nat)), ("_routes", .ref ra), ("_storms", .ref sa), ("_board", .ref A.bo), ("_router", .ref R.ro), ("_watch", .ref W.wo), ("_states", .ref st)]) :: (D, .lst (qs.map fun q => V.ref q.P.pr)) :: (qs.flatMap (PQ.cells K A) ++ ((st, .lst (stV (List.replicate c "on"))) :: (W.cn, .dK (gd (stN ds) fun n => .ref (g n))) :: (W.un, .dK (md (stN ds) wd0.unt)) :: (R.tu, .dK (md S.order (tnV fun _ => 0))) :: M))) (List.Perm.swap _ _ _)
    refine ⟨_, rfl, _, _, _, _, rfl, OwnB.fr obH, T.cl_House, T.t_House_processors, (by simp), ?_⟩
    have obI := OwnB.putM (y := .ins (aC "House" K) dx [("_setup", .ref A.su), ("_count", .int (c : Nat)), ("_routes", .ref ra), ("_storms", .ref sa), ("_board", .ref A.bo), ("_router", .ref R.ro), ("_watch", .ref W.wo), ("_states", .ref st), ("_processors", .ref D)]) obH
    clear ob6 obH obG obD h0
    generalize hB : qs.flatMap (PQ.cells K A) ++ ((st, .lst (stV (List.replicate c "on"))) :: (W.cn, .dK (gd (stN ds) fun n => .ref (g n))) :: (W.un, .dK (md (stN ds) wd0.unt)) :: (R.tu, .dK (md S.order (tnV fun _ => 0))) :: M) = B at obI
    generalize hDl : HO.lst (qs.map fun q => V.ref q.P.pr) = Dl at obI
    obtain ⟨dx2, _, _, _, _, _, h3, _⟩ := hS.ex
    refine ⟨_, rfl, A.su, dx2, _, rfl, obI.ext _ _ (g03 _ _ h3), A.su, S, K0, rfl, hS, Same.tr g03 obI.ext, fun la hla => ?_⟩
    obtain ⟨lx, hlx, hlp⟩ := hla
    have lxl := hlp.length
    refine ⟨_, rfl, ⟨_, Same.tup (Same.tr g03 obI.ext) hlx⟩, fun bt hbt => ?_⟩
    refine dc_it (walk_tup (xs := lx)) (fun i H' => OwnB K A S K3 H' (bdS S) ((bt, .dK (md ((lnN S).take i) fun _ => 0)) :: (x, .ins (aC "House" K) dx [("_setup", .ref A.su), ("_count", .int (c : Nat)), ("_routes", .ref ra), ("_storms", .ref sa), ("_board", .ref A.bo), ("_router", .ref R.ro), ("_watch", .ref W.wo), ("_states", .ref st), ("_processors", .ref D)]) :: (D, Dl) :: B)) (obI.ownM' (same_new (Same.refl _) hbt) hbt upd_same) ?_ ?_ ?_
    · rintro i H' _ o
      exact Same.tup (Same.tr g03 o.ext) hlx
    · rintro i v H7 H8 hi o ⟨rfl, e2⟩
      obtain ⟨l, hl, hL⟩ := pget hlp e2
      obtain ⟨c9, gg, hs2, rfl, hb, _⟩ := LineAt.up (Same.tr g03 o.ext) hL
      have hln : (lnN S)[i]? = some l.name := by unfold lnN; rw [List.getElem?_map, hl]; rfl
      refine ⟨rfl, ⟨_, rfl, _, _, _, _, rfl, rfl, hb, rfl, _, .inr l.name, rfl, OwnB.fr o, ?_, ?_⟩⟩
      · exact sml (m := 12) (by have := ok.ok.le; simp [md, lnN]; omega) (by decide)
      · rw [md_snoc (o := lnN S) (f := fun _ => 0) (show (lnN S).Nodup from ok.ok.nd) hln]
        exact OwnB.putM o
    rintro H7 obJ
    rw [List.take_of_length_le (by simp [lnN]; omega)] at obJ
    have obJ := obJ.permM (M' := (x, .ins (aC "House" K) dx [("_setup", .ref A.su), ("_count", .int (c : Nat)), ("_routes", .ref ra), ("_storms", .ref sa), ("_board", .ref A.bo), ("_router", .ref R.ro), ("_watch", .ref W.wo), ("_states", .ref st), ("_processors", .ref D)]) :: (bt, .dK (md (lnN S) fun _ => 0)) :: (D, Dl) :: B) (List.Perm.swap _ _ _)
    refine ⟨_, rfl, _, _, _, _, rfl, OwnB.fr obJ, T.cl_House, T.t_House_begin_totals, (by simp), ?_⟩
    have obJ := OwnB.putM (y := .ins (aC "House" K) dx [("_setup", .ref A.su), ("_count", .int (c : Nat)), ("_routes", .ref ra), ("_storms", .ref sa), ("_board", .ref A.bo), ("_router", .ref R.ro), ("_watch", .ref W.wo), ("_states", .ref st), ("_processors", .ref D), ("_begin_totals", .ref bt)]) obJ
    refine ⟨_, rfl, A.su, dx2, _, rfl, obJ.ext _ _ (g03 _ _ h3), A.su, S, K0, rfl, hS, Same.tr g03 obJ.ext, fun wa hwa => ?_⟩
    obtain ⟨wx, hwx, hwp⟩ := hwa
    have wxl := hwp.length
    refine ⟨_, rfl, ⟨_, Same.tup (Same.tr g03 obJ.ext) hwx⟩, fun dt hdt => ?_⟩
    refine dc_it (walk_tup (xs := wx)) (fun i H' => OwnB K A S K3 H' (bdS S) ((dt, .dK (md ((wkN S).take i) fun _ => 0)) :: (x, .ins (aC "House" K) dx [("_setup", .ref A.su), ("_count", .int (c : Nat)), ("_routes", .ref ra), ("_storms", .ref sa), ("_board", .ref A.bo), ("_router", .ref R.ro), ("_watch", .ref W.wo), ("_states", .ref st), ("_processors", .ref D), ("_begin_totals", .ref bt)]) :: (bt, .dK (md (lnN S) fun _ => 0)) :: (D, Dl) :: B)) (obJ.ownM' (same_new (Same.refl _) hdt) hdt upd_same) ?_ ?_ ?_
    · rintro i H' _ o
      exact Same.tup (Same.tr g03 o.ext) hwx
    · rintro i v H8 H9 hi o ⟨rfl, e2⟩
      obtain ⟨l, hl, hL⟩ := pget hwp e2
      obtain ⟨c9, rfl, hb⟩ := WorkAt.up (Same.tr g03 o.ext) hL
      have hln : (wkN S)[i]? = some l.name := by unfold wkN; rw [List.getElem?_map, hl]; rfl
      refine ⟨rfl, ⟨_, rfl, _, _, _, _, rfl, rfl, hb, rfl, _, .inr l.name, rfl, OwnB.fr o, ?_, ?_⟩⟩
      · exact sml (m := 12) (by have := ok.okw.le; simp [md, wkN]; omega) (by decide)
      · rw [md_snoc (o := wkN S) (f := fun _ => 0) (show (wkN S).Nodup from ok.okw.nd) hln]
        exact OwnB.putM o
    rintro H8 obK
    rw [List.take_of_length_le (by simp [wkN]; omega)] at obK
    have obK := obK.permM (M' := (x, .ins (aC "House" K) dx [("_setup", .ref A.su), ("_count", .int (c : Nat)), ("_routes", .ref ra), ("_storms", .ref sa), ("_board", .ref A.bo), ("_router", .ref R.ro), ("_watch", .ref W.wo), ("_states", .ref st), ("_processors", .ref D), ("_begin_totals", .ref bt)]) :: (dt, .dK (md (wkN S) fun _ => 0)) :: (bt, .dK (md (lnN S) fun _ => 0)) :: (D, Dl) :: B) (List.Perm.swap _ _ _)
    refine ⟨_, rfl, _, _, _, _, rfl, OwnB.fr obK, T.cl_House, T.t_House_done_totals, (by simp), ?_⟩
    have obK := OwnB.putM (y := .ins (aC "House" K) dx [("_setup", .ref A.su), ("_count", .int (c : Nat)), ("_routes", .ref ra), ("_storms", .ref sa), ("_board", .ref A.bo), ("_router", .ref R.ro), ("_watch", .ref W.wo), ("_states", .ref st), ("_processors", .ref D), ("_begin_totals", .ref bt), ("_done_totals", .ref dt)]) obK
    refine ⟨Nat.zero_le _, fun ev hev => ?_⟩
    have obL := obK.ownM' (same_new (Same.refl _) hev) hev (upd_same (o := HO.lst []))
    have obL := obL.permM (M' := (x, .ins (aC "House" K) dx [("_setup", .ref A.su), ("_count", .int (c : Nat)), ("_routes", .ref ra), ("_storms", .ref sa), ("_board", .ref A.bo), ("_router", .ref R.ro), ("_watch", .ref W.wo), ("_states", .ref st), ("_processors", .ref D), ("_begin_totals", .ref bt), ("_done_totals", .ref dt)]) :: (ev, .lst []) :: (dt, .dK (md (wkN S) fun _ => 0)) :: (bt, .dK (md (lnN S) fun _ => 0)) :: (D, Dl) :: B) (List.Perm.swap _ _ _)
    refine ⟨_, rfl, _, _, _, _, rfl, OwnB.fr obL, T.cl_House, T.t_House_events, (by simp), ?_⟩
    have obL := OwnB.putM (y := .ins (aC "House" K) dx [("_setup", .ref A.su), ("_count", .int (c : Nat)), ("_routes", .ref ra), ("_storms", .ref sa), ("_board", .ref A.bo), ("_router", .ref R.ro), ("_watch", .ref W.wo), ("_states", .ref st), ("_processors", .ref D), ("_begin_totals", .ref bt), ("_done_totals", .ref dt), ("_events", .ref ev)]) obL
    obtain ⟨obM, n1⟩ := OwnB.freezeM obL
    have obN := obM.permM (M' := (D, Dl) :: (ev, .lst []) :: (dt, .dK (md (wkN S) fun _ => 0)) :: (bt, .dK (md (lnN S) fun _ => 0)) :: B) (List.perm_append_comm_assoc [(D, Dl)] [(ev, .lst []), (dt, .dK (md (wkN S) fun _ => 0)), (bt, .dK (md (lnN S) fun _ => 0))] B)
    obtain ⟨obO, n2⟩ := OwnB.freezeM obN
    have nn := Same.tr n1 n2
    have rkk := fun n => rtOf_ok (S := S) (c := c) (n := n) c1 c6 rok
    have ea : upd K3 x (.ins (aC "House" K) dx [("_setup", .ref A.su), ("_count", .int (c : Nat)), ("_routes", .ref ra), ("_storms", .ref sa), ("_board", .ref A.bo), ("_router", .ref R.ro), ("_watch", .ref W.wo), ("_states", .ref st), ("_processors", .ref D), ("_begin_totals", .ref bt), ("_done_totals", .ref dt), ("_events", .ref ev)]) x = some (.ins (aC "House" K) dx [("_setup", .ref A.su), ("_count", .int (c : Nat)), ("_routes", .ref ra), ("_storms", .ref sa), ("_board", .ref A.bo), ("_router", .ref R.ro), ("_watch", .ref W.wo), ("_states", .ref st), ("_processors", .ref D), ("_begin_totals", .ref bt), ("_done_totals", .ref dt), ("_events", .ref ev)]) := upd_same
    refine q _ _ ⟨x, dx, ra, sa, A, R, W, st, D, bt, dt, ev, qs.map fun q => q.P.pr⟩ (Same.tr g03 nn) rfl rfl rfl rfl ⟨⟨n2 _ _ ea, ?_, rk.up (Same.tr s2 (Same.tr g3 nn)), wk.up (Same.tr g3 nn), c1, c6, by rw [List.length_map]; exact hq, fun n _ => rkk n⟩, g, [], qs, ⟨List.length_replicate, fun n _ => List.length_pos_iff.mpr (rkk n).ne, fun d m => nn _ _ (g3 _ _ (hg d m)), .nil⟩, ?_, rfl, fun q m => (hok q m).1.up nn, ?_⟩
    · show upd _ D Dl D = _
      rw [upd_same, ← hDl, List.map_map]
      rfl
    · have z := List.eq_replicate_of_mem (a := pr0) (l := qs.map PQ.p) fun y hy => by
        obtain ⟨q, hq, rfl⟩ := List.mem_map.mp hy
        exact (hok q hq).2
      rw [List.length_map, hq] at z
      exact z
    · subst hB
      refine obO.permM ?_
      have p1 : (([(ev, HO.lst []), (dt, HO.dK (md (wkN S) fun _ => 0)), (bt, HO.dK (md (lnN S) fun _ => 0))] : List (Addr × HO)) ++ (qs.flatMap (PQ.cells K A) ++ ([(st, HO.lst (stV (List.replicate c "on"))), (W.cn, .dK (gd (stN ds) fun n => .ref (g n))), (W.un, .dK (md (stN ds) wd0.unt)), (R.tu, .dK (md S.order (tnV fun _ => 0)))] ++ M))).Perm (([(ev, HO.lst []), (dt, HO.dK (md (wkN S) fun _ => 0)), (bt, HO.dK (md (lnN S) fun _ => 0))] : List (Addr × HO)) ++ ([(st, HO.lst (stV (List.replicate c "on"))), (W.cn, .dK (gd (stN ds) fun n => .ref (g n))), (W.un, .dK (md (stN ds) wd0.unt)), (R.tu, .dK (md S.order (tnV fun _ => 0)))] ++ (qs.flatMap (PQ.cells K A) ++ M))) := (List.perm_append_comm_assoc _ _ _).append_left _
      exact (p1.trans (perm7 _ _ _ _ _ _ _ _)).symm
/-- a house without keywords: the two defaults -/
theorem ok_House_init0 {fd : FuncData} {a1 a2 : V} (T : Txt K mg) (F : FunD K "__init__" "House.__init__" (C8.fnArgs s_House_init) (C8.fnBody s_House_init) (C8.fnScope s_House_init) [] [("routes", a1), ("storms", a2)] (He.ma K (aC "House" K) "__init__") fd) (c_check_house : C8.Cal P w K mg base 5 "check_house" (sp_check_house K) []) (c_HouseBoard : C8.Mak P w K mg base 5 "HouseBoard" (aC "HouseBoard" K) (sp_HouseBoard_init K) []) (c_Router : C8.Mak P w K mg base 3 "Router" (aC "Router" K) (sp_Router_init K) []) (c_StormWatch : C8.Mak P w K mg base 1 "StormWatch" (aC "StormWatch" K) (sp_StormWatch_init K) []) (c_Processor : C8.Mak P w K mg base 4 "Processor" (aC "Processor" K) (sp_Processor_init K) []) (c_lines : FnP P w K mg base 1 (prA "Setup" "lines" K) (sp_Setup_lines K)) (c_works : FnP P w K mg base 1 (prA "Setup" "works" K) (sp_Setup_works K)) :
    C8.Mak P w K mg base 8 "House" (aC "House" K) (sp_House_init K) [a1, a2] := by
  obtain ⟨ds, hv, hb⟩ := F.binds0 (ps := ["self", "setup", "count", "routes", "storms"]) 3 (by simp) rfl (fun D doc pm an cdv ct us ks h1 h2 => match us, ks, h1, h2 with | [_, _, _], [_, _], _, _ => ⟨_, _, _, _, _, _, rfl, rfl, _, _, _, _, _, _, rfl, rfl, rfl⟩)
  exact ⟨_, fd, _, ds, T.mk_House, fnok_House_init T F c_check_house c_HouseBoard c_Router c_StormWatch c_Processor c_lines c_works, T.g_House, hb, hv⟩
end
end Cb

namespace Cb
open PySem PySem.Spec PyProof.Rows L2

theorem ixN_nat {n i : Nat} (h : i < n) : ixN n (i : Nat) = some i := by
  unfold ixN
  rw [if_pos (by omega), if_pos (by omega), Int.toNat_natCast]
theorem stV_set {l : List Str} {i : Nat} {x : Str} : (stV l).set i (.str x) = stV (l.set i x) := by unfold stV; rw [List.map_set]
theorem stV_len {l : List Str} : (stV l).length = l.length := List.length_map _
def leaveH (F : HFx) (h : HsD) (p : Nat) : HsD := { h with sts := h.sts.set p "leaving", bo := offB h.bo ((linesO F.S).filter (onL h.bo (p : Nat))) }
def sp_House_leave (K : PySem.W.Frag) : Sp := fun vs H Q _ => ∃ (X : AdH) (F : HFx) (K0 : Hp) (h : HsD) (M : List (Addr × HO)) (p : Nat), vs = [.ref X.hs, .int (p : Nat)] ∧ OwnH K X F K0 H h M ∧ p < F.c ∧ isOn h.sts p = true ∧ (runH F h).length ≠ 1 ∧
  ∀ a H', OwnH K X F K0 H' (leaveH F h p) ((a, .lst (nmsV ((linesO F.S).filter (onL h.bo (p : Nat))))) :: M) → Q (.ref a) H'
def sp_House_come (K : PySem.W.Frag) : Sp := fun vs H Q _ => ∃ (X : AdH) (F : HFx) (K0 : Hp) (h : HsD) (M : List (Addr × HO)) (p : Nat), vs = [.ref X.hs, .int (p : Nat)] ∧ OwnH K X F K0 H h M ∧ p < F.c ∧ isOn h.sts p = false ∧
  ∀ H', OwnH K X F K0 H' { h with sts := h.sts.set p "on" } M → Q (.bl (decide (h.sts.getD p "off" = "leaving"))) H'
def sp_House_move (K : PySem.W.Frag) : Sp := fun vs H Q _ => ∃ (X : AdH) (F : HFx) (K0 : Hp) (h : HsD) (M : List (Addr × HO)) (l : LineD) (p : Nat), vs = [.ref X.hs, .str l.name, .int (p : Nat)] ∧ OwnH K X F K0 H h M ∧ l ∈ F.S.ls ∧ p < F.c ∧ waitsB h.bo l = true ∧ h.bo.ow l.name = none ∧ p ∈ (F.rt l.name).stops ∧ isOn h.sts p = true ∧ h.ev.length ≤ 900000 ∧
  ∀ K1 H', Same K0 K1 → OwnH K X F K1 H' (placeH h l.name p) M → Q (optV (h.bo.pl l.name)) H'
def roomH (K : PySem.W.Frag) (K1 : Hp) (h : HsD) (p t : Nat) : Prop := ∃ c1 c2, K1 t = some (.tup [.str (h.sts.getD p "off"), .int (h.ps.getD p pr0).bar, .ref c1, .ref c2]) ∧ K1 c1 = some (.tup ((h.ps.getD p pr0).stack.map fun c => .str c.line.name)) ∧ K1 c2 = some (.tup ((h.ps.getD p pr0).rows.map fun r => .str r.1))
def sp_House_getitem (K : PySem.W.Frag) : Sp := fun vs H Q _ => ∃ (X : AdH) (F : HFx) (K0 : Hp) (h : HsD) (M : List (Addr × HO)) (p : Nat), vs = [.ref X.hs, .int (p : Nat)] ∧ OwnH K X F K0 H h M ∧ p < F.c ∧ (∀ q ∈ h.ps, q.stack.length ≤ 13 ∧ q.rows.length ≤ 50000) ∧
  ∀ K1 H' t, Same K0 K1 → OwnH K X F K1 H' h M → roomH K K1 h p t → Q (.ref t) H'
def sp_House_fate (K : PySem.W.Frag) : Sp := fun vs H Q _ => ∃ (X : AdH) (F : HFx) (K0 : Hp) (h : HsD) (M : List (Addr × HO)) (n : Nat), vs = [.ref X.hs, .int (n : Nat)] ∧ OwnH K X F K0 H h M ∧ n < h.bo.rg.length ∧ h.bo.fa.length = h.bo.rg.length ∧ h.bo.rg.length < 16000000 ∧ (∀ r ∈ h.bo.rg, r.2 ∈ F.S.order) ∧
  ∀ K1 H' v, Same K0 K1 → OwnH K X F K1 H' h M → FtT K K1 h.bo n v (h.bo.fa.getD n .wait) → Q v H'

section
variable {P : Program} {w : World} {K : PySem.W.Frag} {mg : Str → Option Value} {base : Heap}

abbrev N_House_fate : List Str := ["self", "number"]
theorem sc_House_fate : FnScope N_House_fate ["self", "number"] (C8.fnScope s_House_fate) := C8.fnScope_by (by decide +kernel)
theorem ok_House_fate {fd : FuncData} (T : Txt K mg) (F : FunD K "fate" "House.fate" (C8.fnArgs s_House_fate) (C8.fnBody s_House_fate) (C8.fnScope s_House_fate) [] [] (He.ma K (aC "House" K) "fate") fd) (c_is_integer : C8.Cal P w K mg base 1 "is_integer" sp_is_integer []) (c_ring_rows : C8.Met P w K mg base 1 (aC "HouseBoard" K) "ring_rows" (sp_HouseBoard_ring_rows K) []) (c_ring_fate : C8.Met P w K mg base 1 (aC "HouseBoard" K) "ring_fate" (sp_HouseBoard_ring_fate K) []) :
    C8.Met P w K mg base 2 (aC "House" K) "fate" (sp_House_fate K) [] := by
  refine C8.met0 T.cl_House T.m_House_fate (fun_c8 F) (F.bindsN fun _ _ _ _ _ _ us hl => match us, hl with | [_, _], _ => rfl) sc_House_fate (fun vs H Q E h => ?_) (fun cdv A outer s H vs Q E hr h => ?_)
  · obtain ⟨_, _, _, _, _, _, rfl, _⟩ := h
    rfl
  · have nd := sc_House_fate.nd
    have hu := hu_of hr
    obtain ⟨X, F, K0, h, M, n, rfl, o, hn, hfa, hr0, hro, q⟩ := h
    refine ⟨_, (pss_cons (ps_if (pt_not (pt_val (C8.pe_c c_is_integer hr (by decide) rfl (pa_cons (pv 1) (pa_cons pe_int (pa_cons (pe_op op_sub (pe_callB call_len_seq (by rfl) T.n_len (by decide +kernel) (pa_cons (C8.pe_mt0 c_ring_rows hr (by decide) (pe_fld (pv 0) rfl)) pa_nil)) pe_int) pa_nil)))))) (pss_one ps_never) pss_nil)
      (pss_one (ps_ret (C8.pe_mt c_ring_fate hr (by decide) (pe_fld (pv 0) rfl) (pa_cons (pv 1) pa_nil))))), ?_⟩
    have ho := o.obj
    obtain ⟨M1, ob, bk⟩ := o.board
    have hb := ob.obj
    refine ⟨_, rfl, _, rfl, _, _, _, _, _, rfl, ho, T.cl_House, T.t_House_board, rfl, X.B.bo, X.B.db, _, rfl, hb, rfl, X.B, F.S, K0, h.bo, M ++ M1, rfl, ob, hr0, fun a H1 rv g1 ha ha1 hrv => ?_⟩
    have hlr := hrv.length
    have ob1 := ob.grow g1
    have hb1 := ob1.obj
    have ho1 := (o.grow g1).obj
    refine ⟨_, _, rfl, .inl (l_of ha1), _, _, rfl, rfl, _, _, _, rfl, true, congrArg V.bl (andT (decide_eq_true (by omega)) (decide_eq_true (by omega))), iteF ?_⟩
    exact ⟨_, rfl, _, _, _, _, _, rfl, ho1, T.cl_House, T.t_House_board, rfl, X.B.bo, X.B.db, _, rfl, hb1, rfl, _, rfl, X.B, F.S, K0, h.bo, M ++ M1, n, rfl, ob1, by omega, hro, fun K1 H2 v s1 ob2 ft => q K1 H2 v s1 (bk K1 H2 _ M s1 ob2) ft⟩
abbrev N_House_getitem : List Str := ["self", "at", "processor", "calls", "call", "works", "row"]
theorem sc_House_getitem : FnScope N_House_getitem ["self", "at"] (C8.fnScope s_House_getitem) := C8.fnScope_by (by decide +kernel)
theorem ok_House_getitem {fd : FuncData} (T : Txt K mg) (F : FunD K "__getitem__" "House.__getitem__" (C8.fnArgs s_House_getitem) (C8.fnBody s_House_getitem) (C8.fnScope s_House_getitem) [] [] (He.ma K (aC "House" K) "__getitem__") fd) (c_check_processor : C8.Met P w K mg base 2 (aC "House" K) "_check_processor" (sp_House_check_processor K) []) (c_call_rows : C8.Met P w K mg base 1 (aC "Processor" K) "call_rows" (sp_Processor_call_rows K) []) (c_work_rows : C8.Met P w K mg base 2 (aC "Processor" K) "work_rows" (sp_Processor_work_rows K) []) (c_bar_now : C8.Met P w K mg base 1 (aC "Processor" K) "bar_now" (sp_Processor_bar_now K) []) :
    C8.Met P w K mg base 3 (aC "House" K) "__getitem__" (sp_House_getitem K) [] := by
  refine C8.met0 T.cl_House T.m_House_getitem (fun_c8 F) (F.bindsN fun _ _ _ _ _ _ us hl => match us, hl with | [_, _], _ => rfl) sc_House_getitem (fun vs H Q E h => ?_) (fun cdv A outer s H vs Q E hr h => ?_)
  · obtain ⟨_, _, _, _, _, _, rfl, _⟩ := h
    rfl
  · have nd := sc_House_getitem.nd
    have hu := hu_of hr
    obtain ⟨X, F, K0, h, M, p, rfl, o, hp, hsz, q⟩ := h
    refine ⟨_, (pss_cons (ps_expr (C8.pe_mt c_check_processor hr (by decide) (pv 0) (pa_cons (pv 1) pa_nil)))
      (pss_cons (ps_set (i := 2) nd rfl (Or.inl rfl) (pe_ix ix_list (pe_fld (pv 0) rfl) (pv 1) (fun _ _ => rfl)))
      (pss_cons (ps_setLc (i := 3) (own := [("call", 4)]) rfl nd rfl rfl (sw_true rfl rfl rfl (by decide +kernel)) (pi_list (C8.pe_mt0 c_call_rows hr (by decide) (pv 2))) (blkOk_by (own := [("call", 4)]) (N := N_House_getitem) (sc := (C8.fnScope s_House_getitem)) (by decide +kernel)) (fun _ _ _ _ _ => (pg_name (i := 4) nd rfl (Or.inl rfl))) (fun _ _ _ _ _ => pts_nil) (fun _ _ _ _ _ => (pe_ix (ix_tup : IxR _ (rIxT K)) (pv 4) pe_int (fun _ _ => rfl))))
      (pss_cons (ps_setLc (i := 5) (own := [("row", 6)]) rfl nd rfl rfl (sw_true rfl rfl rfl (by decide +kernel)) (pi_list (C8.pe_mt0 c_work_rows hr (by decide) (pv 2))) (blkOk_by (own := [("row", 6)]) (N := N_House_getitem) (sc := (C8.fnScope s_House_getitem)) (by decide +kernel)) (fun _ _ _ _ _ => (pg_name (i := 6) nd rfl (Or.inl rfl))) (fun _ _ _ _ _ => pts_nil) (fun _ _ _ _ _ => (pe_ix (ix_tup : IxR _ (rIxT K)) (pv 6) pe_int (fun _ _ => rfl))))
      (pss_one (ps_ret (pe_tup (pa_cons (pe_ix ix_list (pe_fld (pv 0) rfl) (pv 1) (fun _ _ => rfl)) (pa_cons (C8.pe_mt0 c_bar_now hr (by decide) (pv 2)) (pa_cons (pe_callTy call_tuple_of (by rfl) T.n_tuple (by decide +kernel) (pa_cons (pv 3) pa_nil)) (pa_cons (pe_callTy call_tuple_of (by rfl) T.n_tuple (by decide +kernel) (pa_cons (pv 5) pa_nil)) pa_nil))))))))))), ?_⟩
    have ho := o.obj
    have csa := o.c_sa
    have il : p < h.sts.length := by rw [o.sl]; exact hp
    obtain ⟨x, hx⟩ : ∃ x, h.sts[p]? = some x := ⟨_, List.getElem?_eq_getElem il⟩
    have hxd : h.sts.getD p "off" = x := by rw [List.getD_eq_getElem?_getD, hx]; rfl
    refine ⟨_, rfl, X.hs, X.dh, _, rfl, ho, rfl, _, rfl, X, F, K0, h, M, p, rfl, o, hp, ?_⟩
    have hpa := o.ext _ _ o.fx.pl
    obtain ⟨P, pd, M1, hP, hpp, ow, bk⟩ := o.same hp
    have hPk : (X.prs.map V.ref)[p]? = some (.ref P.pr) := by rw [List.getElem?_map, hP]; rfl
    obtain ⟨z1, z2⟩ := hsz pd (List.mem_of_getElem? hpp)
    refine ⟨_, rfl, _, _, _, _, _, rfl, ho, T.cl_House, T.t_House_processors, rfl, _, rfl, _, _, _, _, rfl, rfl, l_of hpa, atIn hPk, ?_⟩
    have dpd : h.ps.getD p pr0 = pd := by rw [List.getD_eq_getElem?_getD, hpp]; rfl
    have same : ∀ {K1 H1 : Hp} {M1 : List (Addr × HO)}, OwnH K X F K1 H1 h M1 → ∃ P2 M2, P2.pr = P.pr ∧ Own K X.B P2 F.S K1 H1 h.bo pd (M1 ++ M2) ∧ ∀ K3 H3 M3, Same K1 K3 → Own K X.B P2 F.S K3 H3 h.bo pd (M3 ++ M2) → OwnH K X F K3 H3 h M3 := fun o => by
      obtain ⟨P2, p2, M2, a, b, c, d⟩ := o.same hp
      rw [hpp] at b
      obtain rfl := Option.some.inj b
      exact ⟨P2, M2, by rw [hP] at a; exact (Option.some.inj a).symm, c, d⟩
    refine ⟨_, rfl, P.pr, P.dp, _, rfl, ow.prc, rfl, X.B, P, F.S, K0, h.bo, pd, M ++ M1, rfl, ow, by omega, fun K1 H1 a ev s1 ow1 pe1 => ?_⟩
    have o1 := bk K1 H1 ((a, .lst ev) :: M) s1 ow1
    have el1 := pe1.length
    refine ⟨_, rfl, ⟨_, l_of o1.fr⟩, fun D hD => ?_⟩
    refine lc_it (walk_list (xs := ev)) (fun i H' => OwnH K X F K1 H' h ((D, .lst ((pd.stack.take i).map fun (c : CallD) => V.str c.line.name)) :: (a, .lst ev) :: M)) (o1.own' (same_new (Same.refl _) hD) hD upd_same) ?_ ?_ ?_
    · rintro i H' _ o2
      exact l_of o2.tail.fr
    · rintro i v H2 H3 hi o2 ⟨rfl, e2⟩
      obtain ⟨c, hc, t, rfl, ht⟩ := pget pe1 e2
      refine ⟨rfl, _, rfl, _, _, _, _, rfl, rfl, Same.tup o2.ext ht, atI0, _, o2.fr, sm6 (by simp; omega), ?_⟩
      rw [take_snoc hc, List.map_append]
      exact o2.put
    rintro H2 o2
    rw [List.take_of_length_le (by omega)] at o2
    have o2 := o2.perm (M' := (a, .lst ev) :: (D, .lst (pd.stack.map fun (c : CallD) => V.str c.line.name)) :: M) (List.Perm.swap _ _ _)
    have o2 := o2.tail
    obtain ⟨P2, M2, ep2, ow2, bk2⟩ := same o2
    refine ⟨_, rfl, P.pr, P2.dp, _, rfl, by rw [← ep2]; exact ow2.prc, rfl, X.B, P2, F.S, K1, h.bo, pd, _, by rw [ep2]; rfl, ow2, by omega, fun H3 a3 ev3 ow3 pe3 => ?_⟩
    have o3 := bk2 K1 H3 ((a3, .lst ev3) :: (D, .lst (pd.stack.map fun (c : CallD) => V.str c.line.name)) :: M) (Same.refl _) ow3
    have el3 := pe3.length
    refine ⟨_, rfl, ⟨_, l_of o3.fr⟩, fun D3 hD3 => ?_⟩
    refine lc_it (walk_list (xs := ev3)) (fun i H' => OwnH K X F K1 H' h ((D3, .lst ((pd.rows.take i).map fun (r : Str × Int) => V.str r.1)) :: (a3, .lst ev3) :: (D, .lst (pd.stack.map fun (c : CallD) => V.str c.line.name)) :: M)) (o3.own' (same_new (Same.refl _) hD3) hD3 upd_same) ?_ ?_ ?_
    · rintro i H' _ o4
      exact l_of o4.tail.fr
    · rintro i v H4 H5 hi o4 ⟨rfl, e2⟩
      obtain ⟨c, hc, t, rfl, ht⟩ := pget pe3 e2
      refine ⟨rfl, _, rfl, _, _, _, _, rfl, rfl, Same.tup o4.ext ht, atI0, _, o4.fr, sm6 (by simp; omega), ?_⟩
      rw [take_snoc hc, List.map_append]
      exact o4.put
    rintro H4 o4
    rw [List.take_of_length_le (by omega)] at o4
    have o4 := o4.perm (M' := (a3, .lst ev3) :: (D3, .lst (pd.rows.map fun (r : Str × Int) => V.str r.1)) :: (D, .lst (pd.stack.map fun (c : CallD) => V.str c.line.name)) :: M) (List.Perm.swap _ _ _)
    have o4 := o4.tail
    have ho4 := o4.obj
    obtain ⟨P4, M4, ep4, ow4, bk4⟩ := same o4
    refine ⟨_, rfl, _, _, _, _, _, rfl, ho4, T.cl_House, T.t_House_states, rfl, _, rfl, _, _, _, _, rfl, rfl, l_of o4.c_sa, atIn (stV_at hx), _, rfl, P.pr, P4.dp, _, rfl, by rw [← ep4]; exact ow4.prc, rfl, X.B, P4, F.S, K1, h.bo, pd, _, by rw [ep4]; rfl, ow4, _, rfl, _, _, rfl, .inl ⟨l_of o4.tail.fr, fun c1 hc1 => ?_⟩⟩
    obtain ⟨o5, s5⟩ := o4.keep (x := .tup (pd.stack.map fun (c : CallD) => V.str c.line.name)) hc1
    refine ⟨_, rfl, _, _, rfl, .inl ⟨l_of o5.fr, fun c2 hc2 => ?_⟩⟩
    obtain ⟨o6, s6⟩ := o5.keep (x := .tup (pd.rows.map fun (r : Str × Int) => V.str r.1)) hc2
    refine ⟨small8 (by simp), fun t ht => ?_⟩
    obtain ⟨o7, s7⟩ := o6.keep (x := .tup [.str x, .int pd.bar, .ref c1, .ref c2]) ht
    refine q _ _ t (Same.tr s1 (Same.tr s5 (Same.tr s6 s7))) o7.tail.tail ⟨c1, c2, ?_, ?_, ?_⟩
    · rw [hxd, dpd]
      exact upd_same
    · rw [dpd]
      exact s7 _ _ (s6 _ _ upd_same)
    · rw [dpd]
      exact s7 _ _ upd_same
end
end Cb

/-! k65: a house of lines with one run each; "heat" is a level, alone in the greatest rank; all processors on -/
namespace Cb
open PySem PySem.Spec PyProof.Rows L2
theorem isOn_rep {c k : Nat} (h : k < c) : isOn (List.replicate c ("on" : Str)) k = true := by
  unfold isOn
  rw [List.getD_eq_getElem?_getD, List.getElem?_replicate, if_pos h]
  decide +kernel
theorem run_rep {c : Nat} : (List.range c).filter (isOn (List.replicate c ("on" : Str))) = List.range c :=
  List.filter_eq_self.mpr fun k m => isOn_rep (List.mem_range.mp m)
def firstR (c : Nat) : RtD := ⟨"first", List.range c⟩
theorem choose_first {S : SetD} {b : BdD} {c t : Nat} (hc : 1 ≤ c) : chooseR S b (List.replicate c ("on" : Str)) (firstR c) t = some (0, t) := by
  unfold chooseR firstR
  rw [if_neg (show ¬ ("first" : Str) = "turn" by decide +kernel)]
  dsimp only
  rw [run_rep]
  cases c with
  | zero => omega
  | succ n =>
    rw [List.range_succ_eq_map]
    rfl
structure Calm (S : SetD) (hd : LineD) : Prop where
  ok : SetOk S
  ho : ∃ r, linesO S = hd :: r
  hl : hd ∈ S.ls
  lv : hd.lvl = true
  rk : hd.rank = 9
  ot : ∀ l ∈ S.ls, l ≠ hd → l.rank ≤ 8
  st : ∀ l ∈ S.ls, ∃ n, l.steps = [.run n] ∧ 1 ≤ n
/-- what holds between two ticks -/
structure Inv65 (F : HFx) (hd : LineD) (h : HsD) (high : Bool) : Prop where
  sts : h.sts = List.replicate F.c ("on" : Str)
  c1 : 1 ≤ F.c
  rt : ∀ n, F.rt n = firstR F.c
  ds : F.ds = []
  dis : ∀ n, h.bo.dis n = false
  ru : h.bo.rung hd.name = high
  pl0 : h.bo.pl hd.name = none
  pl : ∀ n, h.bo.pl n = none ∨ h.bo.pl n = some 0
  uo : h.bo.und hd.name = (h.bo.ow hd.name).isSome
  pn : h.ps.length = F.c
  pg : ∀ p ∈ h.ps, PrG F.S p
  p0 : (h.ps.getD 0 pr0).bar = 0 ∧ (h.ps.getD 0 pr0).rows = [] ∧ (∀ c ∈ (h.ps.getD 0 pr0).stack, c.kept = 0) ∧ ((∃ c ∈ (h.ps.getD 0 pr0).stack, c.line = hd) ↔ h.bo.und hd.name = true)
  pk : ∀ k, 1 ≤ k → (h.ps.getD k pr0).stack = [] ∧ (h.ps.getD k pr0).rows = []
/-- lines placed at the start of a tick: all on processor 0 -/
theorem placeS_first {F : HFx} {h : HsD} {l : LineD} (hs : h.sts = List.replicate F.c ("on" : Str)) (c1 : 1 ≤ F.c) (rt : ∀ n, F.rt n = firstR F.c) (ds : F.ds = []) : placeS F h l = placeH h l.name 0 := by
  have e : heldR F.ds h.wd l.name h.bo.tk = none := by
    unfold heldR
    rw [ds]
    exact if_neg (by simp [stN])
  unfold placeS
  rw [e]
  dsimp only
  rw [rt, hs, choose_first c1]
  dsimp only
  rw [gset_self, ← hs]
theorem placesH_first {F : HFx} {h : HsD} (hs : h.sts = List.replicate F.c ("on" : Str)) (c1 : 1 ≤ F.c) (rt : ∀ n, F.rt n = firstR F.c) (ds : F.ds = []) : ∀ (ls : List LineD),
    placesH F h ls = { h with bo := { h.bo with pl := fun n => if n ∈ ls.map (·.name) then some 0 else h.bo.pl n }, ev := h.ev ++ ls.map fun l => .four "place" h.bo.tk l.name 0 } := by
  intro ls
  induction ls using List.reverseRecOn' with
  | nil =>
    show h = _
    simp
  | snoc l x ih =>
    rw [placesH_snoc, ih]
    rw [placeS_first (by exact hs) c1 rt ds]
    unfold placeH putB
    dsimp only
    congr 1
    · congr 1
      funext n
      unfold oset
      by_cases e : n = x.name
      · subst e
        simp
      · rw [if_neg e]
        simp [e]
    · rw [List.map_append, List.append_assoc]
      rfl
theorem goA_first {S : SetD} {hd : LineD} (C : Calm S hd) {b : BdD} {p : PrD} {r : List CallD} {l : LineD} {kp : Int} (hl : l ∈ S.ls) (h : p.stack = r ++ [⟨l, 0, 0, kp⟩]) : goA S.ws b p = (b, p, []) := by
  obtain ⟨n, e, hn⟩ := C.st l hl
  rw [goA_snoc h]
  have z : thru S.ws (l.steps.drop 0) 0 b { p with stack := r } = (0, b, { p with stack := r }) := by
    rw [List.drop_zero, e]
    rfl
  simp only
  rw [z]
  simp only [e]
  rw [if_pos (by simp)]
  rw [← h]
theorem takeA_calm {S : SetD} {hd : LineD} (C : Calm S hd) {b : BdD} {p : PrD} {l : LineD} {ls : List LineD} (hl : l ∈ S.ls) (hf : l.rank > floorA p) : takeA S.ws b p (l :: ls) = (beginB b l, { p with stack := p.stack ++ [⟨l, 0, 0, p.bar⟩] }, [.bgn l]) := by
  unfold takeA
  dsimp only
  rw [if_pos hf, goA_first C hl rfl]
theorem goOn_nil {S : SetD} {b : BdD} {p : PrD} (h : p.stack = []) (hr : p.rows = []) : goOn S.ws b p = (b, { p with c3 := p.c3 + 1 }, []) := by
  have e1 : spendA S.ws b p = (b, { p with c3 := p.c3 + 1 }, []) := by
    rw [spendA_nil h]
    simp only [hr]
  have e2 : onA S.ws p.stack.length b p = (b, p, []) := by
    rw [h]
    rfl
  unfold goOn
  rw [e2]
  show ((spendA S.ws b p).1, (spendA S.ws b p).2.1, [] ++ (spendA S.ws b p).2.2) = _
  rw [e1]
  rfl
theorem goOn_run {S : SetD} {hd : LineD} (C : Calm S hd) {b : BdD} {p : PrD} {r : List CallD} {c : CallD} (h : p.stack = r ++ [c]) (hc : CallOk S c) : ∃ n, stepOf c = some (.run n) ∧
    goOn S.ws b p = if c.ticks + 1 < n then (b, { p with c0 := p.c0 + 1, stack := r ++ [⟨c.line, c.step, c.ticks + 1, c.kept⟩] }, []) else (endB b c.line, { p with c0 := p.c0 + 1, stack := r, bar := c.kept }, [.fin c.line]) := by
  obtain ⟨n, e, hn⟩ := C.st c.line hc.ln
  have hs : c.step = 0 ∧ stepOf c = some (.run n) := by
    unfold stepOf
    have z := step_le hc
    rw [e] at z ⊢
    have : c.step = 0 := by simp at z; omega
    rw [this]
    exact ⟨rfl, rfl⟩
  refine ⟨n, hs.2, ?_⟩
  have pf : passes b p = false := by rw [passes_snoc h hs.2]; rfl
  have go : goOn S.ws b p = spendA S.ws b p := by
    unfold goOn
    rw [onA_no pf]
    rfl
  rw [go, spendA_run h hs.2]
  split
  · rfl
  · rw [goA_snoc (r := r) (c := ⟨c.line, c.step + 1, 0, c.kept⟩) rfl]
    have z : ∀ (b : BdD) (p : PrD), thru S.ws (c.line.steps.drop (c.step + 1)) (c.step + 1) b p = (1, b, p) := fun b p => by
      rw [e, hs.1]
      rfl
    simp only
    rw [z]
    simp only [e]
    rw [if_neg (by simp)]
def isB (hd : LineD) : HEv → Bool
  | .four w _ n _ => decide (w = "begin") && decide (n = hd.name)
  | _ => false
def isF : HEv → Bool
  | .four .. => true
  | _ => false
structure Eff (hd : LineD) (h h' : HsD) (k : Nat) : Prop where
  bt : h'.bt hd.name = h.bt hd.name + k
  ev : ∃ l, h'.ev = h.ev ++ l ∧ l.countP (isB hd) = k ∧ ∀ e ∈ l, isF e = true
theorem Eff.refl (hd : LineD) (h : HsD) : Eff hd h h 0 := ⟨by simp, [], by simp, rfl, fun _ m => nomatch m⟩
theorem Eff.tr {hd : LineD} {a b c : HsD} {m n : Nat} (x : Eff hd a b m) (y : Eff hd b c n) : Eff hd a c (m + n) := by
  obtain ⟨l, e1, e2, f1⟩ := x.ev
  obtain ⟨l2, e3, e4, f2⟩ := y.ev
  exact ⟨by rw [y.bt, x.bt]; omega, l ++ l2, by rw [e3, e1, List.append_assoc], by rw [List.countP_append, e2, e4], fun e m => (List.mem_append.mp m).elim (f1 e) (f2 e)⟩
theorem setD_self {ps : List PrD} {k : Nat} (h : k < ps.length) : ps.set k (ps.getD k pr0) = ps := by
  rw [List.getD_eq_getElem?_getD, List.getElem?_eq_getElem h]
  exact set_same (List.getElem?_eq_getElem h)
theorem takes_idle {F : HFx} {h : HsD} {k : Nat} (hk : 1 ≤ k) (hl : k < h.ps.length) (pl : ∀ n, h.bo.pl n = none ∨ h.bo.pl n = some 0) : takesS F h k = h := by
  have e : readyLs F h k = [] := by
    unfold readyLs
    rw [List.filter_eq_nil_iff]
    intro l _
    have z : onL h.bo (k : Nat) l = false := by
      unfold onL
      rcases pl l.name with e | e
      · rw [e]; exact decide_eq_false (by intro q; cases q)
      · rw [e]; exact decide_eq_false (by intro q; have := V.int.inj q; omega)
    unfold readyP
    rw [z]
    simp
  unfold takesS
  rw [e]
  show notesH F { h with bo := h.bo, ps := h.ps.set k (h.ps.getD k pr0) } k [] = h
  rw [setD_self hl]
  rfl
/-- what processor 0 takes: nothing, or the first line that is placed there, if its rank is above -/
theorem takes_zero {F : HFx} {hd : LineD} {h : HsD} (C : Calm F.S hd) (ds : F.ds = []) (hl : 0 < h.ps.length) : takesS F h 0 = h ∨
    ∃ l r, readyLs F h 0 = l :: r ∧ l.rank > floorA (h.ps.getD 0 pr0) ∧ takesS F h 0 = { h with bo := beginB h.bo l, ps := h.ps.set 0 { h.ps.getD 0 pr0 with stack := (h.ps.getD 0 pr0).stack ++ [⟨l, 0, 0, (h.ps.getD 0 pr0).bar⟩] }, bt := nset h.bt l.name (h.bt l.name + 1), ev := h.ev ++ [.four "begin" h.bo.tk l.name 0] } := by
  cases e : readyLs F h 0 with
  | nil =>
    left
    unfold takesS
    rw [e]
    show notesH F { h with bo := h.bo, ps := h.ps.set 0 (h.ps.getD 0 pr0) } 0 [] = h
    rw [setD_self hl]
    rfl
  | cons l r =>
    have hm : l ∈ F.S.ls := linesO_mem C.ok (List.mem_filter.mp (show l ∈ readyLs F h 0 by rw [e]; exact List.mem_cons_self)).1
    by_cases hf : l.rank > floorA (h.ps.getD 0 pr0)
    · right
      refine ⟨l, r, rfl, hf, ?_⟩
      have nr : ∀ n t, noteR F.ds h.wd n t = (false, h.wd) := fun n t => by unfold noteR; rw [ds]; rfl
      unfold takesS
      rw [e, takeA_calm C hm hf]
      unfold notesH
      rw [List.foldl_cons, List.foldl_nil]
      unfold noteH
      dsimp only
      rw [nr]
      rfl
    · left
      unfold takesS
      rw [e]
      have z : takeA F.S.ws h.bo (h.ps.getD 0 pr0) (l :: r) = (h.bo, h.ps.getD 0 pr0, []) := by
        unfold takeA
        dsimp only
        rw [if_neg hf]
      rw [z]
      show notesH F { h with bo := h.bo, ps := h.ps.set 0 (h.ps.getD 0 pr0) } 0 [] = h
      rw [setD_self hl]
      rfl
theorem takes_yes {F : HFx} {hd : LineD} {h : HsD} (C : Calm F.S hd) (ds : F.ds = []) {l : LineD} {r : List LineD} (e : readyLs F h 0 = l :: r) (hf : l.rank > floorA (h.ps.getD 0 pr0)) : takesS F h 0 = { h with bo := beginB h.bo l, ps := h.ps.set 0 { h.ps.getD 0 pr0 with stack := (h.ps.getD 0 pr0).stack ++ [⟨l, 0, 0, (h.ps.getD 0 pr0).bar⟩] }, bt := nset h.bt l.name (h.bt l.name + 1), ev := h.ev ++ [.four "begin" h.bo.tk l.name 0] } := by
  have hm : l ∈ F.S.ls := linesO_mem C.ok (List.mem_filter.mp (show l ∈ readyLs F h 0 by rw [e]; exact List.mem_cons_self)).1
  have nr : ∀ n t, noteR F.ds h.wd n t = (false, h.wd) := fun n t => by unfold noteR; rw [ds]; rfl
  unfold takesS
  rw [e, takeA_calm C hm hf]
  unfold notesH
  rw [List.foldl_cons, List.foldl_nil]
  unfold noteH
  dsimp only
  rw [nr]
  rfl
theorem takes_rest {F : HFx} : ∀ {l : List Nat} {h : HsD}, (∀ k ∈ l, 1 ≤ k ∧ k < h.ps.length) → (∀ n, h.bo.pl n = none ∨ h.bo.pl n = some 0) → takesH F h l = h
  | [], h, _, _ => rfl
  | k :: l, h, hk, pl => by
    show takesH F (takesS F h k) l = h
    rw [takes_idle (hk k List.mem_cons_self).1 (hk k List.mem_cons_self).2 pl]
    exact takes_rest (fun k m => hk k (List.mem_cons_of_mem _ m)) pl
theorem takes_all {F : HFx} {h : HsD} {c : Nat} (c1 : 1 ≤ c) (hl : (takesS F h 0).ps.length = c) (pl : ∀ n, (takesS F h 0).bo.pl n = none ∨ (takesS F h 0).bo.pl n = some 0) : takesH F h (List.range c) = takesS F h 0 := by
  cases c with
  | zero => omega
  | succ n =>
    rw [List.range_succ_eq_map]
    show takesH F (takesS F h 0) ((List.range n).map Nat.succ) = _
    refine takes_rest (fun k m => ?_) pl
    obtain ⟨j, hj, rfl⟩ := List.mem_map.mp m
    have := List.mem_range.mp hj
    exact ⟨by omega, by omega⟩
/-- the same but for processors beside the first, which stay idle -/
structure Idle (h h' : HsD) : Prop where
  bo : h'.bo = h.bo
  sts : h'.sts = h.sts
  bt : h'.bt = h.bt
  ev : h'.ev = h.ev
  wd : h'.wd = h.wd
  pn : h'.ps.length = h.ps.length
  p0 : h'.ps.getD 0 pr0 = h.ps.getD 0 pr0
  pk : ∀ k, 1 ≤ k → (h'.ps.getD k pr0).stack = [] ∧ (h'.ps.getD k pr0).rows = []
theorem goes_idle {F : HFx} {g h : HsD} {k : Nat} (I : Idle g h) (hs : g.sts = List.replicate F.c ("on" : Str)) (hk : 1 ≤ k) (hc : k < F.c) (hl : g.ps.length = F.c) : Idle g (goesS F h k) := by
  have hs2 : h.sts.getD k "off" = "on" := by
    rw [I.sts, hs, List.getD_eq_getElem?_getD, List.getElem?_replicate, if_pos hc]
    rfl
  obtain ⟨a, b⟩ := I.pk k hk
  have e : goesS F h k = { h with bo := h.bo, ps := h.ps.set k { h.ps.getD k pr0 with c3 := (h.ps.getD k pr0).c3 + 1 } } := by
    unfold goesS
    rw [hs2, if_neg (show ¬ (("on" : Str) = "off") by decide +kernel), goOn_nil a b]
    rfl
  have hkl : k < h.ps.length := by rw [I.pn, hl]; exact hc
  rw [e]
  refine ⟨I.bo, I.sts, I.bt, I.ev, I.wd, by show (List.set _ _ _).length = _; rw [List.length_set]; exact I.pn, ?_, fun j hj => ?_⟩
  · show (h.ps.set k _).getD 0 pr0 = _
    rw [getD_set hkl, if_neg (by omega)]
    exact I.p0
  · show ((h.ps.set k _).getD j pr0).stack = [] ∧ ((h.ps.set k _).getD j pr0).rows = []
    rw [getD_set hkl]
    by_cases ej : j = k
    · rw [if_pos ej]
      exact ⟨a, b⟩
    · rw [if_neg ej]
      exact I.pk j hj
theorem goes_all {F : HFx} {h : HsD} (hs : (goesS F h 0).sts = List.replicate F.c ("on" : Str)) (hl : (goesS F h 0).ps.length = F.c) (pk : ∀ k, 1 ≤ k → ((goesS F h 0).ps.getD k pr0).stack = [] ∧ ((goesS F h 0).ps.getD k pr0).rows = []) : ∀ n, 1 ≤ n → n ≤ F.c → Idle (goesS F h 0) (goesH F h n)
  | 0, h1, _ => by omega
  | 1, _, _ => ⟨rfl, rfl, rfl, rfl, rfl, rfl, rfl, pk⟩
  | n + 2, _, h2 => by
    rw [goesH_succ]
    exact goes_idle (goes_all hs hl pk (n + 1) (by omega) (by omega)) hs (by omega) (by omega) hl
theorem offs_none {F : HFx} {h : HsD} (hs : h.sts = List.replicate F.c ("on" : Str)) : ∀ n, offsH F h n = h
  | 0 => rfl
  | n + 1 => by
    rw [offsH_succ, offs_none hs n]
    unfold offS
    refine if_neg fun z => ?_
    have z1 := z.1
    rw [hs, List.getD_eq_getElem?_getD, List.getElem?_replicate] at z1
    by_cases e : n < F.c
    · rw [if_pos e] at z1
      exact absurd z1 (by show ¬ (("on" : Str) = "leaving"); decide +kernel)
    · rw [if_neg e] at z1
      exact absurd z1 (by show ¬ (("off" : Str) = "leaving"); decide +kernel)
end Cb

/-! k65: the first half of a tick -/
namespace Cb
open PySem PySem.Spec PyProof.Rows L2
theorem free_heat {F : HFx} {hd : LineD} {h : HsD} {high : Bool} (C : Calm F.S hd) (I : Inv65 F hd h high) : freeP h.bo hd = (high && !h.bo.und hd.name) := by
  unfold freeP readyB waitsB nopL
  rw [C.lv, I.ru, I.dis, I.pl0]
  show ((high && (!true || !h.bo.und hd.name)) && !false && !h.bo.und hd.name && decide (V.non = V.non)) = _
  rw [decide_eq_true rfl]
  cases high <;> cases h.bo.und hd.name <;> rfl
theorem name_mem {F : HFx} {hd : LineD} (C : Calm F.S hd) {ls : List LineD} (hl : ∀ l ∈ ls, l ∈ F.S.ls) : hd.name ∈ ls.map (·.name) ↔ hd ∈ ls := by
  constructor
  · intro m
    obtain ⟨l, hm, e⟩ := List.mem_map.mp m
    have := nm_inj C.ok.ok.nd (hl l hm) C.hl e
    exact this ▸ hm
  · exact fun m => List.mem_map_of_mem m
theorem hd_mem {S : SetD} {hd : LineD} (C : Calm S hd) : hd ∈ linesO S := by
  obtain ⟨r, e⟩ := C.ho
  rw [e]
  exact List.mem_cons_self
theorem floor_lt {F : HFx} {hd : LineD} {h : HsD} {high : Bool} (C : Calm F.S hd) (I : Inv65 F hd h high) (hu : h.bo.und hd.name = false) : hd.rank > floorA (h.ps.getD 0 pr0) := by
  obtain ⟨b0, r0, k0, i0⟩ := I.p0
  rw [C.rk]
  have hc : 0 < h.ps.length := by rw [I.pn]; exact I.c1
  have pg := I.pg (h.ps.getD 0 pr0) (by rw [List.getD_eq_getElem?_getD, List.getElem?_eq_getElem hc]; exact List.getElem_mem hc)
  rcases List.eq_nil_or_concat (h.ps.getD 0 pr0).stack with e | ⟨r, c, e⟩
  · rw [floor_nil e, b0]
    decide
  · rw [List.concat_eq_append] at e
    rw [floor_snoc e, b0]
    have ne : c.line ≠ hd := fun q => by
      have z := i0.mp ⟨c, by rw [e]; simp, q⟩
      rw [hu] at z
      cases z
    have r8 := C.ot c.line (pg.calls c (by rw [e]; simp)).ln ne
    split <;> omega
theorem tick1_eq {F : HFx} {hd : LineD} {h : HsD} {high : Bool} (I : Inv65 F hd h high) : tick1 F h = { h with bo := { h.bo with pl := fun n => if n ∈ (freeLs F h).map (·.name) then some 0 else h.bo.pl n }, ev := h.ev ++ (freeLs F h).map fun l => .four "place" h.bo.tk l.name 0 } := placesH_first I.sts I.c1 I.rt I.ds _
theorem run1 {F : HFx} {h : HsD} (hs : h.sts = List.replicate F.c ("on" : Str)) : runH F h = List.range F.c := by
  unfold runH
  rw [hs]
  exact run_rep
theorem eff_place {hd : LineD} {ls : List LineD} {t : Int} : (ls.map fun l => HEv.four "place" t l.name 0).countP (isB hd) = 0 := by
  rw [List.countP_eq_zero]
  intro e he
  obtain ⟨l, _, rfl⟩ := List.mem_map.mp he
  show ¬ (decide (("place" : Str) = "begin") && decide (l.name = hd.name)) = true
  rw [decide_eq_false (show ¬ ("place" : Str) = "begin" by decide +kernel)]
  simp
theorem beg_eq {hd : LineD} {l : LineD} {t : Int} : isB hd (.four "begin" t l.name 0) = decide (l.name = hd.name) := by
  show (decide (("begin" : Str) = "begin") && decide (l.name = hd.name)) = _
  rw [decide_eq_true (show ("begin" : Str) = "begin" from rfl)]
  rfl
theorem tick2_ok {F : HFx} {hd : LineD} {h : HsD} {high : Bool} (C : Calm F.S hd) (I : Inv65 F hd h high) : Inv65 F hd (tick2 F h) high ∧ Eff hd h (tick2 F h) (if (high && !h.bo.und hd.name) = true then 1 else 0) := by
  have e1 := tick1_eq I
  have hpos : 0 < h.ps.length := by rw [I.pn]; exact I.c1
  have hfl : ∀ l ∈ freeLs F h, l ∈ F.S.ls := fun l m => linesO_mem C.ok (List.mem_filter.mp m).1
  have hmem : hd.name ∈ (freeLs F h).map (·.name) ↔ (high && !h.bo.und hd.name) = true := by
    rw [name_mem C hfl, ← free_heat C I]
    unfold freeLs
    rw [List.mem_filter]
    exact ⟨fun z => z.2, fun z => ⟨hd_mem C, z⟩⟩
  have t2 : tick2 F h = takesH F (tick1 F h) (List.range F.c) := by
    unfold tick2
    rw [run1 (by rw [e1]; exact I.sts)]
  have pg2 : ∀ p ∈ (tick2 F h).ps, PrG F.S p := by
    have g1 : HGrow F (tick1 F h) (tick1 F h) 0 := ⟨by rw [e1]; exact I.pg, by rw [e1]; exact I.pn, rfl, Nat.le_refl _, Nat.le_refl _, Nat.le_refl _, fun _ => Nat.le_refl _⟩
    have z := takesH_grow C.ok g1 (ks := List.range F.c) fun k m => List.mem_range.mp m
    rw [t2]
    exact z.gp
  obtain ⟨b0, r0, k0, i0⟩ := I.p0
  generalize hh1 : tick1 F h = h1 at e1 t2
  have p1 : h1.ps = h.ps := by rw [e1]
  have s1 : h1.sts = h.sts := by rw [e1]
  have u1 : h1.bo.und = h.bo.und := by rw [e1]
  have w1 : h1.bo.ow = h.bo.ow := by rw [e1]
  have g1 : h1.bo.rung = h.bo.rung := by rw [e1]
  have d1 : h1.bo.dis = h.bo.dis := by rw [e1]
  have bt1 : h1.bt = h.bt := by rw [e1]
  have pl1 : ∀ n, h1.bo.pl n = if n ∈ (freeLs F h).map (·.name) then some 0 else h.bo.pl n := fun n => by rw [e1]
  have pl2 : ∀ n, h1.bo.pl n = none ∨ h1.bo.pl n = some 0 := fun n => by
    rw [pl1]
    split
    · exact .inr rfl
    · exact I.pl n
  have E1 : Eff hd h h1 0 := ⟨by rw [bt1]; simp, _, by rw [e1], eff_place, fun e m => by obtain ⟨l, _, rfl⟩ := List.mem_map.mp m; rfl⟩
  have len1 : (takesS F h1 0).ps.length = F.c → (∀ n, (takesS F h1 0).bo.pl n = none ∨ (takesS F h1 0).bo.pl n = some 0) → tick2 F h = takesS F h1 0 := fun a b => by
    rw [t2]
    exact takes_all I.c1 a b
  -- what beginning a line does
  have key : ∀ (l : LineD) (r : List LineD), l ∈ F.S.ls → readyLs F h1 0 = l :: r → l.rank > floorA (h1.ps.getD 0 pr0) → (h1.bo.pl l.name = some 0) → (l = hd ↔ (high && !h.bo.und hd.name) = true) → (l ≠ hd → h1.bo.pl hd.name = none) →
      Inv65 F hd (tick2 F h) high ∧ Eff hd h (tick2 F h) (if (high && !h.bo.und hd.name) = true then 1 else 0) := fun l r hl er hf hpl hiff hne => by
    have ty := takes_yes C I.ds er hf
    have e2 : tick2 F h = takesS F h1 0 := len1 (by rw [ty]; show (List.set _ _ _).length = _; rw [List.length_set, p1]; exact I.pn) (fun n => by
      rw [ty]
      show oset h1.bo.pl l.name none n = none ∨ oset h1.bo.pl l.name none n = some 0
      unfold oset
      split
      · exact .inl rfl
      · exact pl2 n)
    have pg3 := pg2
    rw [e2] at pg3 ⊢
    rw [ty] at pg3 ⊢
    have nn : l.name = hd.name ↔ l = hd := ⟨fun q => nm_inj C.ok.ok.nd hl C.hl q, fun q => by rw [q]⟩
    have hp0 : 0 < h1.ps.length := by rw [p1]; exact hpos
    refine ⟨⟨s1.trans I.sts, I.c1, I.rt, I.ds, fun n => by show h1.bo.dis n = false; rw [d1]; exact I.dis n, ?_, ?_, fun n => ?_, ?_, ?_, pg3, ?_, fun k hk => ?_⟩, ?_⟩
    · show (if l.lvl then h1.bo.rung else fset h1.bo.rung l.name false) hd.name = high
      by_cases q : l = hd
      · rw [q, C.lv, if_pos rfl, g1]
        exact I.ru
      · split
        · rw [g1]; exact I.ru
        · unfold fset
          rw [if_neg fun z => q (nn.mp z.symm), g1]
          exact I.ru
    · show oset h1.bo.pl l.name none hd.name = none
      unfold oset
      split
      · rfl
      · next z => exact hne fun q => z (by rw [q])
    · show oset h1.bo.pl l.name none n = none ∨ oset h1.bo.pl l.name none n = some 0
      unfold oset
      split
      · exact .inl rfl
      · exact pl2 n
    · show fset h1.bo.und l.name true hd.name = (oset h1.bo.ow l.name (h1.bo.pl l.name) hd.name).isSome
      unfold fset oset
      by_cases q : l = hd
      · rw [if_pos (by rw [q]), if_pos (by rw [q]), hpl]
        rfl
      · rw [if_neg fun z => q (nn.mp z.symm), if_neg fun z => q (nn.mp z.symm), u1, w1]
        exact I.uo
    · show (List.set _ _ _).length = _
      rw [List.length_set, p1]
      exact I.pn
    · show ((h1.ps.set 0 _).getD 0 pr0).bar = 0 ∧ ((h1.ps.set 0 _).getD 0 pr0).rows = [] ∧ (∀ c ∈ ((h1.ps.set 0 _).getD 0 pr0).stack, c.kept = 0) ∧ ((∃ c ∈ ((h1.ps.set 0 _).getD 0 pr0).stack, c.line = hd) ↔ fset h1.bo.und l.name true hd.name = true)
      rw [getD_set hp0, if_pos rfl, p1]
      refine ⟨b0, r0, fun c hc => ?_, ?_⟩
      · rcases List.mem_append.mp hc with hc | hc
        · exact k0 c hc
        · rw [List.mem_singleton.mp hc]
          exact b0
      · unfold fset
        by_cases q : l = hd
        · rw [if_pos (by rw [q])]
          exact ⟨fun _ => rfl, fun _ => ⟨⟨l, 0, 0, (h.ps.getD 0 pr0).bar⟩, by simp, q⟩⟩
        · rw [if_neg fun z => q (nn.mp z.symm), u1, ← i0]
          constructor
          · rintro ⟨c, hc, e⟩
            rcases List.mem_append.mp hc with hc | hc
            · exact ⟨c, hc, e⟩
            · rw [List.mem_singleton.mp hc] at e
              exact absurd e q
          · rintro ⟨c, hc, e⟩
            exact ⟨c, List.mem_append_left _ hc, e⟩
    · show ((h1.ps.set 0 _).getD k pr0).stack = [] ∧ ((h1.ps.set 0 _).getD k pr0).rows = []
      rw [getD_set hp0, if_neg (by omega), p1]
      exact I.pk k hk
    · have E2 : Eff hd h1 { h1 with bo := beginB h1.bo l, ps := h1.ps.set 0 { h1.ps.getD 0 pr0 with stack := (h1.ps.getD 0 pr0).stack ++ [⟨l, 0, 0, (h1.ps.getD 0 pr0).bar⟩] }, bt := nset h1.bt l.name (h1.bt l.name + 1), ev := h1.ev ++ [.four "begin" h1.bo.tk l.name 0] } (if (high && !h.bo.und hd.name) = true then 1 else 0) := by
        by_cases q : l = hd
        · rw [if_pos (hiff.mp q)]
          refine ⟨?_, _, rfl, ?_, fun e m => by rw [List.mem_singleton.mp m]; rfl⟩
          · show nset h1.bt l.name (h1.bt l.name + 1) hd.name = h1.bt hd.name + (1 : Nat)
            unfold nset
            rw [if_pos (by rw [q]), q]
            rfl
          · rw [List.countP_singleton, beg_eq, decide_eq_true (by rw [q])]
            rfl
        · rw [if_neg fun z => q (hiff.mpr z)]
          refine ⟨?_, _, rfl, ?_, fun e m => by rw [List.mem_singleton.mp m]; rfl⟩
          · show nset h1.bt l.name (h1.bt l.name + 1) hd.name = h1.bt hd.name + (0 : Nat)
            unfold nset
            rw [if_neg fun z => q (nn.mp z.symm)]
            simp
          · rw [List.countP_singleton, beg_eq, decide_eq_false fun z => q (nn.mp z)]
            rfl
      have z := E1.tr E2
      rw [Nat.zero_add] at z
      exact z
  cases hA : (high && !h.bo.und hd.name) with
  | true =>
    have hu : h.bo.und hd.name = false := by cases hx : h.bo.und hd.name with
      | false => rfl
      | true => rw [hx] at hA; simp at hA
    have hpl : h1.bo.pl hd.name = some 0 := by rw [pl1, if_pos (hmem.mpr hA)]
    have hrd : readyP h1.bo (0 : Nat) hd = true := by
      unfold readyP onL enaL
      rw [hpl, d1, I.dis]
      rfl
    obtain ⟨r, ho⟩ := C.ho
    have er : readyLs F h1 0 = hd :: r.filter (readyP h1.bo (0 : Nat)) := by
      unfold readyLs
      rw [ho, List.filter_cons_of_pos hrd]
    have z := key hd _ C.hl er (by rw [p1]; exact floor_lt C I hu) hpl ⟨fun _ => hA, fun _ => rfl⟩ (fun q => absurd rfl q)
    rw [hA] at z
    exact z
  | false =>
    have hpl : h1.bo.pl hd.name = none := by
      rw [pl1, if_neg fun m => by rw [hmem.mp m] at hA; cases hA]
      exact I.pl0
    have hrd : hd ∉ readyLs F h1 0 := fun m => by
      have z := (List.mem_filter.mp m).2
      unfold readyP onL at z
      rw [hpl] at z
      simp [optV] at z
    rcases takes_zero C I.ds (h := h1) (by rw [p1]; exact hpos) with e | ⟨l, r, er, hf, ty⟩
    · have e2 : tick2 F h = h1 := (len1 (by rw [e, p1]; exact I.pn) (by rw [e]; exact pl2)).trans e
      have pg3 := pg2
      rw [e2] at pg3 ⊢
      rw [if_neg (by simp)]
      exact ⟨⟨s1.trans I.sts, I.c1, I.rt, I.ds, fun n => by rw [d1]; exact I.dis n, by rw [g1]; exact I.ru, hpl, pl2, by rw [u1, w1]; exact I.uo, by rw [p1]; exact I.pn, pg3, by rw [p1, u1]; exact I.p0, fun k hk => by rw [p1]; exact I.pk k hk⟩, E1⟩
    · have hlm : l ∈ readyLs F h1 0 := by rw [er]; exact List.mem_cons_self
      have ne : l ≠ hd := fun q => hrd (q ▸ hlm)
      have hl : l ∈ F.S.ls := linesO_mem C.ok (List.mem_filter.mp hlm).1
      have hpl2 : h1.bo.pl l.name = some 0 := by
        have z := (List.mem_filter.mp hlm).2
        unfold readyP onL at z
        rcases pl2 l.name with q | q
        · rw [q] at z
          simp [optV] at z
        · exact q
      have z := key l r hl er hf hpl2 ⟨fun q => absurd q ne, fun q => by rw [hA] at q; cases q⟩ (fun _ => hpl)
      rw [hA] at z
      exact z
end Cb

/-! k65: a whole tick; ring and quiet -/
namespace Cb
open PySem PySem.Spec PyProof.Rows L2
/-- processor 0 goes on -/
theorem goes_zero {F : HFx} {hd : LineD} {h : HsD} {high : Bool} (C : Calm F.S hd) (I : Inv65 F hd h high) : Eff hd h (goesS F h 0) 0 ∧ ((∀ p ∈ (goesS F h 0).ps, PrG F.S p) → Inv65 F hd (goesS F h 0) high) := by
  have hpos : 0 < h.ps.length := by rw [I.pn]; exact I.c1
  obtain ⟨b0, r0, k0, i0⟩ := I.p0
  have pg := I.pg (h.ps.getD 0 pr0) (by rw [List.getD_eq_getElem?_getD, List.getElem?_eq_getElem hpos]; exact List.getElem_mem hpos)
  have hs : h.sts.getD 0 "off" = "on" := by
    rw [I.sts, List.getD_eq_getElem?_getD, List.getElem?_replicate, if_pos (show 0 < F.c from I.c1)]
    rfl
  have e0 : goesS F h 0 = notesH F { h with bo := (goOn F.S.ws h.bo (h.ps.getD 0 pr0)).1, ps := h.ps.set 0 (goOn F.S.ws h.bo (h.ps.getD 0 pr0)).2.1 } 0 (goOn F.S.ws h.bo (h.ps.getD 0 pr0)).2.2 := by
    unfold goesS
    rw [hs, if_neg (show ¬ (("on" : Str) = "off") by decide +kernel)]
  have quiet : ∀ (p' : PrD), p'.bar = 0 → p'.rows = [] → (∀ c ∈ p'.stack, c.kept = 0) → ((∃ c ∈ p'.stack, c.line = hd) ↔ h.bo.und hd.name = true) → goesS F h 0 = { h with ps := h.ps.set 0 p' } →
      Eff hd h (goesS F h 0) 0 ∧ ((∀ p ∈ (goesS F h 0).ps, PrG F.S p) → Inv65 F hd (goesS F h 0) high) := fun p' a1 a2 a3 a4 e => by
    rw [e]
    refine ⟨⟨by simp, [], by simp, rfl, fun _ m => nomatch m⟩, fun pg' => ⟨I.sts, I.c1, I.rt, I.ds, I.dis, I.ru, I.pl0, I.pl, I.uo, by show (List.set _ _ _).length = _; rw [List.length_set]; exact I.pn, pg', ?_, fun k hk => ?_⟩⟩
    · show ((h.ps.set 0 p').getD 0 pr0).bar = 0 ∧ ((h.ps.set 0 p').getD 0 pr0).rows = [] ∧ (∀ c ∈ ((h.ps.set 0 p').getD 0 pr0).stack, c.kept = 0) ∧ ((∃ c ∈ ((h.ps.set 0 p').getD 0 pr0).stack, c.line = hd) ↔ h.bo.und hd.name = true)
      rw [getD_set hpos, if_pos rfl]
      exact ⟨a1, a2, a3, a4⟩
    · show ((h.ps.set 0 p').getD k pr0).stack = [] ∧ ((h.ps.set 0 p').getD k pr0).rows = []
      rw [getD_set hpos, if_neg (by omega)]
      exact I.pk k hk
  rcases List.eq_nil_or_concat (h.ps.getD 0 pr0).stack with e | ⟨r, c, e⟩
  · refine quiet { h.ps.getD 0 pr0 with c3 := (h.ps.getD 0 pr0).c3 + 1 } b0 r0 k0 i0 ?_
    rw [e0, goOn_nil e r0]
    rfl
  · rw [List.concat_eq_append] at e
    have hco := pg.calls c (by rw [e]; simp)
    have kc := k0 c (by rw [e]; simp)
    obtain ⟨n, _, hg⟩ := goOn_run (b := h.bo) C e hco
    by_cases hn : c.ticks + 1 < n
    · rw [if_pos hn] at hg
      refine quiet { h.ps.getD 0 pr0 with c0 := (h.ps.getD 0 pr0).c0 + 1, stack := r ++ [⟨c.line, c.step, c.ticks + 1, c.kept⟩] } b0 r0 (fun x hx => ?_) ?_ ?_
      · rcases List.mem_append.mp hx with hx | hx
        · exact k0 x (by rw [e]; exact List.mem_append_left _ hx)
        · rw [List.mem_singleton.mp hx]
          exact kc
      · rw [← i0, e]
        constructor
        · rintro ⟨x, hx, q⟩
          rcases List.mem_append.mp hx with hx | hx
          · exact ⟨x, List.mem_append_left _ hx, q⟩
          · rw [List.mem_singleton.mp hx] at q
            exact ⟨c, by simp, q⟩
        · rintro ⟨x, hx, q⟩
          rcases List.mem_append.mp hx with hx | hx
          · exact ⟨x, List.mem_append_left _ hx, q⟩
          · rw [List.mem_singleton.mp hx] at q
            exact ⟨⟨c.line, c.step, c.ticks + 1, c.kept⟩, by simp, q⟩
      · rw [e0, hg]
        rfl
    · rw [if_neg hn] at hg
      have e1 : goesS F h 0 = { h with bo := endB h.bo c.line, ps := h.ps.set 0 { h.ps.getD 0 pr0 with c0 := (h.ps.getD 0 pr0).c0 + 1, stack := r, bar := c.kept }, ev := h.ev ++ [.four "end" h.bo.tk c.line.name 0] } := by
        rw [e0, hg]
        rfl
      rw [e1]
      have nn : c.line.name = hd.name ↔ c.line = hd := ⟨fun q => nm_inj C.ok.ok.nd hco.ln C.hl q, fun q => by rw [q]⟩
      refine ⟨⟨by simp, [.four "end" h.bo.tk c.line.name 0], rfl, ?_, fun e m => by rw [List.mem_singleton.mp m]; rfl⟩, fun pg' => ⟨I.sts, I.c1, I.rt, I.ds, I.dis, I.ru, I.pl0, I.pl, ?_, by show (List.set _ _ _).length = _; rw [List.length_set]; exact I.pn, pg', ?_, fun k hk => ?_⟩⟩
      · rw [List.countP_singleton]
        show (if (decide (("end" : Str) = "begin") && decide (c.line.name = hd.name)) = true then 1 else 0) = 0
        rw [decide_eq_false (show ¬ ("end" : Str) = "begin" by decide +kernel)]
        rfl
      · show fset h.bo.und c.line.name false hd.name = (oset h.bo.ow c.line.name none hd.name).isSome
        unfold fset oset
        by_cases q : c.line = hd
        · rw [if_pos (by rw [q]), if_pos (by rw [q])]
          rfl
        · rw [if_neg fun z => q (nn.mp z.symm), if_neg fun z => q (nn.mp z.symm)]
          exact I.uo
      · show ((h.ps.set 0 _).getD 0 pr0).bar = 0 ∧ ((h.ps.set 0 _).getD 0 pr0).rows = [] ∧ (∀ c ∈ ((h.ps.set 0 _).getD 0 pr0).stack, c.kept = 0) ∧ ((∃ x ∈ ((h.ps.set 0 _).getD 0 pr0).stack, x.line = hd) ↔ fset h.bo.und c.line.name false hd.name = true)
        rw [getD_set hpos, if_pos rfl]
        refine ⟨kc, r0, fun x hx => k0 x (by rw [e]; exact List.mem_append_left _ hx), ?_⟩
        unfold fset
        by_cases q : c.line = hd
        · rw [if_pos (by rw [q])]
          refine ⟨?_, fun z => by cases z⟩
          rintro ⟨x, hx, q2⟩
          have pa := pg.asc
          rw [e] at pa
          have z := (List.pairwise_append.mp pa).2.2 x hx c List.mem_cons_self
          rw [q, q2] at z
          exact absurd z (Int.lt_irrefl _)
        · rw [if_neg fun z => q (nn.mp z.symm), ← i0, e]
          constructor
          · rintro ⟨x, hx, q2⟩
            exact ⟨x, List.mem_append_left _ hx, q2⟩
          · rintro ⟨x, hx, q2⟩
            rcases List.mem_append.mp hx with hx | hx
            · exact ⟨x, hx, q2⟩
            · rw [List.mem_singleton.mp hx] at q2
              exact absurd q2 q
      · show ((h.ps.set 0 _).getD k pr0).stack = [] ∧ ((h.ps.set 0 _).getD k pr0).rows = []
        rw [getD_set hpos, if_neg (by omega)]
        exact I.pk k hk
theorem tick3_ok {F : HFx} {hd : LineD} {h : HsD} {high : Bool} (C : Calm F.S hd) (I : Inv65 F hd h high) : Inv65 F hd (goesH F h F.c) high ∧ Eff hd h (goesH F h F.c) 0 := by
  have gg : HGrow F h h 0 := ⟨I.pg, I.pn, rfl, Nat.le_refl _, Nat.le_refl _, Nat.le_refl _, fun _ => Nat.le_refl _⟩
  have G1 := goesS_grow C.ok gg I.c1
  have Gc := goesH_grow C.ok gg (Nat.le_refl F.c)
  obtain ⟨E, J⟩ := goes_zero C I
  have J := J G1.gp
  have D := goes_all J.sts J.pn J.pk F.c I.c1 (Nat.le_refl _)
  refine ⟨⟨D.sts.trans J.sts, I.c1, I.rt, I.ds, by rw [D.bo]; exact J.dis, by rw [D.bo]; exact J.ru, by rw [D.bo]; exact J.pl0, by rw [D.bo]; exact J.pl, by rw [D.bo]; exact J.uo, D.pn.trans J.pn, Gc.gp, by rw [D.p0, D.bo]; exact J.p0, D.pk⟩, ?_⟩
  obtain ⟨l, e1, e2, f2⟩ := E.ev
  exact ⟨by rw [D.bt]; exact E.bt, l, by rw [D.ev]; exact e1, e2, f2⟩
/-- a tick: heat begins just when it is high and has no owner -/
theorem tick65 {F : HFx} {hd : LineD} {h : HsD} {high : Bool} (C : Calm F.S hd) (I : Inv65 F hd h high) : Inv65 F hd (tickH F h) high ∧ Eff hd h (tickH F h) (if (high && (h.bo.ow hd.name).isNone) = true then 1 else 0) := by
  obtain ⟨I2, E2⟩ := tick2_ok C I
  obtain ⟨I3, E3⟩ := tick3_ok C I2
  have e4 : tick4 F h = tick3 F h := offs_none I3.sts F.c
  have eu : (h.bo.ow hd.name).isNone = !h.bo.und hd.name := by
    rw [I.uo]
    cases h.bo.ow hd.name <;> rfl
  have E := E2.tr E3
  rw [Nat.add_zero] at E
  rw [eu]
  unfold tickH
  rw [e4]
  exact ⟨⟨I3.sts, I3.c1, I3.rt, I3.ds, I3.dis, I3.ru, I3.pl0, I3.pl, I3.uo, I3.pn, I3.pg, I3.p0, I3.pk⟩, E.bt, E.ev⟩
/-- the level goes high or low -/
theorem ring65 {F : HFx} {hd : LineD} {h : HsD} (C : Calm F.S hd) (bk : BdOk F.S h.bo) (I : Inv65 F hd h false) : Inv65 F hd { h with bo := ringB h.bo hd.name } true :=
  ⟨I.sts, I.c1, I.rt, I.ds, I.dis, by show fset h.bo.rung hd.name true hd.name = true; unfold fset; rw [if_pos rfl], I.pl0, I.pl, I.uo, I.pn, I.pg, I.p0, I.pk⟩
theorem quiet65 {F : HFx} {hd : LineD} {h : HsD} (C : Calm F.S hd) (I : Inv65 F hd h true) : Inv65 F hd { h with bo := quietB h.bo hd.name } false :=
  ⟨I.sts, I.c1, I.rt, I.ds, I.dis, by show fset h.bo.rung hd.name false hd.name = false; unfold fset; rw [if_pos rfl], by show oset h.bo.pl hd.name none hd.name = none; unfold oset; rw [if_pos rfl], fun n => by
    show oset h.bo.pl hd.name none n = none ∨ oset h.bo.pl hd.name none n = some 0
    unfold oset
    split
    · exact .inl rfl
    · exact I.pl n, I.uo, I.pn, I.pg, I.p0, I.pk⟩
/-- another line rings -/
theorem other65 {F : HFx} {hd : LineD} {h : HsD} {high : Bool} {n : Str} (I : Inv65 F hd h high) (ne : n ≠ hd.name) : Inv65 F hd { h with bo := ringB h.bo n } high :=
  ⟨I.sts, I.c1, I.rt, I.ds, I.dis, by show fset h.bo.rung n true hd.name = high; unfold fset; rw [if_neg fun q => ne q.symm]; exact I.ru, I.pl0, I.pl, I.uo, I.pn, I.pg, I.p0, I.pk⟩
end Cb

namespace Cb
open PySem PySem.Spec PyProof.Rows L2

def rowO (sc : Addr) (i g x : Int) : HO := .lst [.ref sc, .int i, .int g, .int x]
def sp_law_taken (K : PySem.W.Frag) : Sp := fun vs H Q _ => ∃ (row sc : Addr) (m : Int) (ns : List Int) (i g x : Int) (K0 : Hp) (M : List (Addr × HO)), vs = [.ref row, .int m] ∧ 0 < m ∧ m < 100000 ∧ 0 ≤ i ∧ (0 ≤ g ∧ g < 2147483647) ∧ SqL K K0 sc (ns.map V.int) ∧ Sep K0 H ((row, rowO sc i g x) :: M) ∧
  ∀ H' i' g' x' r, 0 ≤ i' → (0 ≤ g' ∧ g' < 2147483647) → 0 ≤ r → r < m → Sep K0 H' ((row, rowO sc i' g' x') :: M) → Q (.int r) H'
def Dr (K' H : Hp) (row sc : Addr) (M : List (Addr × HO)) : Prop := ∃ i g x, 0 ≤ i ∧ (0 ≤ g ∧ g < 2147483647) ∧ Sep K' H ((row, rowO sc i g x) :: M)
def sp_law (K : PySem.W.Frag) : Sp := fun vs H Q _ => ∃ (a : Addr) (ns : List Int), vs = [.ref a] ∧ SqL K H a (ns.map V.int) ∧ ∀ H', Q (.bl true) H'
theorem taken {K : PySem.W.Frag} {row sc : Addr} {m : Int} {ns : List Int} {K0 H : Hp} {M : List (Addr × HO)} {Q : VK} {E : XK} (hm : 0 < m) (hm2 : m < 100000) (hsc : SqL K K0 sc (ns.map V.int)) (d : Dr K0 H row sc M) (q : ∀ H' r, 0 ≤ r → r < m → Dr K0 H' row sc M → Q (.int r) H') : sp_law_taken K [.ref row, .int m] H Q E := by
  obtain ⟨i, g, x, hi, hg, sp⟩ := d
  exact ⟨row, sc, m, ns, i, g, x, K0, M, rfl, hm, hm2, hi, hg, hsc, sp, fun H' i' g' x' r h1 h2 h3 h4 sp' => q H' r h3 h4 ⟨i', g', x', h1, h2, sp'⟩⟩
section
variable {K' H : Hp} {row sc : Addr} {M : List (Addr × HO)}
theorem Dr.ext (d : Dr K' H row sc M) : Same K' H := d.elim fun _ h => h.elim fun _ h => h.elim fun _ h => h.2.2.ext
theorem Dr.own (d : Dr K' H row sc M) {p : Addr} {o : HO} (h : H p = none) : Dr K' (upd H p o) row sc ((p, o) :: M) := by
  obtain ⟨i, g, x, hi, hg, sp⟩ := d
  exact ⟨i, g, x, hi, hg, (sp.own h).swap⟩
theorem Dr.drop (d : Dr K' H row sc M) {p : Addr} {o : HO} (h : H p = none) : Dr K' (upd H p o) row sc M := by
  obtain ⟨i, g, x, hi, hg, sp⟩ := d
  exact ⟨i, g, x, hi, hg, sp.drop h⟩
theorem Dr.keep (d : Dr K' H row sc M) {p : Addr} {o : HO} (h : H p = none) : Dr (upd K' p o) (upd H p o) row sc M ∧ Same K' (upd K' p o) := by
  obtain ⟨i, g, x, hi, hg, sp⟩ := d
  exact ⟨⟨i, g, x, hi, hg, sp.keep h⟩, sp.newk h⟩
theorem Dr.at0 {p : Addr} {o : HO} (d : Dr K' H row sc ((p, o) :: M)) : H p = some o := by
  obtain ⟨i, g, x, hi, hg, sp⟩ := d
  exact sp.c1
theorem Dr.at1 {p : Addr} {o : HO} {e : Addr × HO} (d : Dr K' H row sc (e :: (p, o) :: M)) : H p = some o := by
  obtain ⟨i, g, x, hi, hg, sp⟩ := d
  exact sp.c2
theorem Dr.put {p : Addr} {o o' : HO} (d : Dr K' H row sc ((p, o) :: M)) : Dr K' (upd H p o') row sc ((p, o') :: M) := by
  obtain ⟨i, g, x, hi, hg, sp⟩ := d
  exact ⟨i, g, x, hi, hg, sp.put1⟩
theorem Dr.tail {e : Addr × HO} (d : Dr K' H row sc (e :: M)) : Dr K' H row sc M := by
  obtain ⟨i, g, x, hi, hg, sp⟩ := d
  exact ⟨i, g, x, hi, hg, sp.swap.tail⟩
theorem Dr.freeze {p : Addr} {o : HO} (d : Dr K' H row sc ((p, o) :: M)) : Dr (upd K' p o) H row sc M ∧ Same K' (upd K' p o) := by
  obtain ⟨i, g, x, hi, hg, sp⟩ := d
  exact ⟨⟨i, g, x, hi, hg, sp.swap.freeze⟩, sp.swap.new0⟩
end
theorem takenV {K : PySem.W.Frag} {row sc : Addr} {m : Int} {ns : List Int} {K0 H : Hp} {M : List (Addr × HO)} {σ : L2.St} {Q : VK} {E : XK} {v : Nat} (hσ : σ[v]? = some (some (V.ref row))) (hm : 0 < m) (hm2 : m < 100000) (hsc : SqL K K0 sc (ns.map V.int)) (d : Dr K0 H row sc M) (q : ∀ H' r, 0 ≤ r → r < m → Dr K0 H' row sc M → Q (.int r) H') : tCall (sp_law_taken K) [] E (tCons (tVar v) (tCons (tC (.int m)) tNil)) σ H Q := ⟨_, hσ, taken (E := E) hm hm2 hsc d q⟩
theorem takenW {K : PySem.W.Frag} {row sc : Addr} {m : Int} {ns : List Int} {K0 H : Hp} {M : List (Addr × HO)} {σ : L2.St} {Q : VK} {E : XK} {v u : Nat} (hσ : σ[v]? = some (some (V.ref row))) (hu : σ[u]? = some (some (V.int m))) (hm : 0 < m) (hm2 : m < 100000) (hsc : SqL K K0 sc (ns.map V.int)) (d : Dr K0 H row sc M) (q : ∀ H' r, 0 ≤ r → r < m → Dr K0 H' row sc M → Q (.int r) H') : tCall (sp_law_taken K) [] E (tCons (tVar v) (tCons (tVar u) tNil)) σ H Q := ⟨_, hσ, _, hu, taken (E := E) hm hm2 hsc d q⟩
theorem takenQ {K : PySem.W.Frag} {row sc : Addr} {ns : List Int} {K0 H : Hp} {M : List (Addr × HO)} {σ : L2.St} {Q : VK} {E : XK} {v : Nat} {te : TE} (m : Int) (hσ : σ[v]? = some (some (V.ref row))) (h : ∀ Q' : VK, Q' (.int m) H → te σ H Q') (hm : 0 < m) (hm2 : m < 100000) (hsc : SqL K K0 sc (ns.map V.int)) (d : Dr K0 H row sc M) (q : ∀ H' r, 0 ≤ r → r < m → Dr K0 H' row sc M → Q (.int r) H') : tCall (sp_law_taken K) [] E (tCons (tVar v) (tCons te tNil)) σ H Q := ⟨_, hσ, h _ (taken (E := E) hm hm2 hsc d q)⟩
def FlatOk (x : V) : Prop := (∃ i, x = .int i) ∨ ∃ s, x = .str s ∧ nameOk s
def toD : V → PyData
  | .int i => .int i
  | .str s => .str s
  | _ => .none
theorem flat_dp {K : PySem.W.Frag} {H : Hp} : ∀ {l : List V}, (∀ x ∈ l, FlatOk x) → DpAll K H l (l.map toD)
  | [], _ => .nil
  | x :: l, h => by
    rcases h x List.mem_cons_self with ⟨i, rfl⟩ | ⟨s, rfl, _⟩
    · exact .cons (.int i) (flat_dp fun y m => h y (List.mem_cons_of_mem _ m))
    · exact .cons (.str s) (flat_dp fun y m => h y (List.mem_cons_of_mem _ m))
theorem flat_lay : ∀ {l : List V}, (∀ x ∈ l, FlatOk x) → PyData.canLayAll0 (l.map toD) = true ∧ PyData.depthAll (l.map toD) ≤ 1
  | [], _ => by simp [PyData.canLayAll0, PyData.depthAll]
  | x :: l, h => by
    have z := flat_lay (l := l) fun y m => h y (List.mem_cons_of_mem _ m)
    rcases h x List.mem_cons_self with ⟨i, rfl⟩ | ⟨s, rfl, hs⟩
    · simp [toD, PyData.canLayAll0, PyData.canLay0, PyData.depthAll, PyData.depth, z.1, z.2]
    · simp [toD, PyData.canLayAll0, PyData.canLay0, PyData.depthAll, PyData.depth, z.1, z.2, sok hs]
theorem flat_sh {l : List V} (h : ∀ x ∈ l, FlatOk x) : SeqAt.shaped (.list (l.map toD)) = true := by
  have z := flat_lay h
  unfold SeqAt.shaped
  simp [PyData.canLay0, z.1, PyData.depth]
  omega
theorem flat_nil (l : List V) : PyData.eqv (.list (l.map toD)) (.list []) = l.isEmpty := by
  cases l <;> simp [PyData.eqv, PyData.eqvAll]
theorem takenLv {K : PySem.W.Frag} {row sc : Addr} {rv v : Nat} {p : Addr} {acc : List V} {ns : List Int} {K0 H : Hp} {M : List (Addr × HO)} {σ : L2.St} {Q : VK} {E : XK} (hσ : σ[rv]? = some (some (V.ref row))) (hv : σ[v]? = some (some (V.ref p))) (hp : SqL K H p acc) (h0 : 0 < acc.length) (hm2 : acc.length < 900) (hsc : SqL K K0 sc (ns.map V.int)) (d : Dr K0 H row sc M) (q : ∀ H' r, 0 ≤ r → r < (acc.length : Int) → Dr K0 H' row sc M → Q (.int r) H') : tCall (sp_law_taken K) [] E (tCons (tVar rv) (tCons (tCB (fun xs H Q => ∃ p ys, xs = [V.ref p] ∧ (SqL K H p ys ∨ SqT K H p ys) ∧ Q (V.int ys.length) H) (tCons (tVar v) tNil)) tNil)) σ H Q :=
  ⟨_, hσ, _, hv, p, acc, rfl, .inl hp, taken (E := E) (by omega) (by omega) hsc d q⟩
theorem Dr.put1 {K' H : Hp} {row sc : Addr} {M : List (Addr × HO)} {e : Addr × HO} {p : Addr} {o o' : HO} (d : Dr K' H row sc (e :: (p, o) :: M)) : Dr K' (upd H p o') row sc (e :: (p, o') :: M) := by
  obtain ⟨i, g, x, hi, hg, sp⟩ := d
  exact ⟨i, g, x, hi, hg, sp.put2⟩
theorem erase_perm : ∀ {l : List V} {i : Nat} (h : i < l.length), (l[i] :: l.eraseIdx i).Perm l
  | a :: l, 0, _ => .refl _
  | a :: l, i + 1, h => (List.Perm.swap _ _ _).trans ((erase_perm (l := l) (i := i) (by simpa using h)).cons a)
def sp_law_mixed (K : PySem.W.Frag) : Sp := fun vs H Q _ => ∃ (row sc th : Addr) (ns : List Int) (xs : List V) (K0 : Hp) (M : List (Addr × HO)), vs = [.ref row, .ref th] ∧ SqL K K0 sc (ns.map V.int) ∧ SqL K K0 th xs ∧ xs.length ≤ 20 ∧ (∀ x ∈ xs, FlatOk x) ∧ Dr K0 H row sc M ∧
  ∀ K1 H' p ys, Same K0 K1 → Dr K1 H' row sc M → K1 p = some (.lst ys) → ys.Perm xs → Q (.ref p) H'

theorem Dr.grow {K' H H' : Hp} {row sc : Addr} {M : List (Addr × HO)} (d : Dr K' H row sc M) (g : Same H H') : Dr K' H' row sc M := by
  obtain ⟨i, gg, x, hi, hg, sp⟩ := d
  exact ⟨i, gg, x, hi, hg, sp.grow g⟩

section
variable {P : Program} {w : World} {K : PySem.W.Frag} {mg : Str → Option Value} {base : Heap}

abbrev N_law_taken : List Str := ["_law_row", "_law_many", "_law_found", "_law_cell"]
theorem sc_law_taken : FnScope N_law_taken ["_law_row", "_law_many"] (C8.fnScope s_law_taken) := C8.fnScope_by (by decide +kernel)
theorem ok_law_taken {fd : FuncData} (T : Txt K mg) (F : FunD K "_law_taken" "_law_taken" (C8.fnArgs s_law_taken) (C8.fnBody s_law_taken) (C8.fnScope s_law_taken) [] [] (He.ga K "_law_taken") fd) :
    C8.Cal P w K mg base 1 "_law_taken" (sp_law_taken K) [] := by
  refine C8.cal0 (ds := []) ⟨fun_c8 F, T.f__law_taken, F.kp⟩ (F.bindsN fun _ _ _ _ _ _ us hl => match us, hl with | [_, _], _ => rfl) .nil sc_law_taken (fun vs H Q E h => ?_) (fun cdv A outer s H vs Q E hr h => ?_)
  · obtain ⟨_, _, _, _, _, _, _, _, _, rfl, _⟩ := h
    rfl
  · have nd := sc_law_taken.nd
    have hu := hu_of hr
    obtain ⟨row, sc, m, ns, i, g, x, K0, M, rfl, hm, hm2, hi, hg, hsc, sp, q⟩ := h
    refine ⟨_, (pss_cons (ps_if (pt_cmpR op_gt (pe_ix ix_list (pv 0) pe_int (fun _ _ => rfl)) pe_int (nomark _)) (pss_cons (ps_set (i := 2) nd rfl (Or.inl rfl) (pe_op op_mod (pe_callTy call_int1 (by rfl) T.n_int (by decide +kernel) (pa_cons (pe_ix ix_list (pv 0) pe_int (fun _ _ => rfl)) pa_nil)) (pv 1)))
      (pss_cons (ps_asg (pe_op op_fdiv (pe_ix ix_list (pv 0) pe_int (fun _ _ => rfl)) (pv 1)) (pg_sub (pv 0) pe_int set_list))
      (pss_one (ps_ret (pv 2))))) pss_nil)
      (pss_cons (ps_asg (pe_op op_add (pe_ix ix_list (pv 0) pe_int (fun _ _ => rfl)) pe_int) (pg_sub (pv 0) pe_int set_list))
      (pss_cons (ps_if (pt_cmpR op_gt (pe_ix ix_list (pv 0) pe_int (fun _ _ => rfl)) (pe_callB call_len_seq (by rfl) T.n_len (by decide +kernel) (pa_cons (pe_ix ix_list (pv 0) pe_int (fun _ _ => rfl)) pa_nil)) (nomark _)) (pss_cons (ps_asg (pe_op op_mod (pe_callTy call_int1 (by rfl) T.n_int (by decide +kernel) (pa_cons (pe_op op_add (pe_op op_mul (pe_ix ix_list (pv 0) pe_int (fun _ _ => rfl)) pe_int) pe_int) pa_nil)) pe_int) (pg_sub (pv 0) pe_int set_list))
      (pss_one (ps_ret (pe_op op_mod (pe_callTy call_int1 (by rfl) T.n_int (by decide +kernel) (pa_cons (pe_op op_fdiv (pe_ix ix_list (pv 0) pe_int (fun _ _ => rfl)) pe_int) pa_nil)) (pv 1))))) pss_nil)
      (pss_cons (ps_set (i := 3) nd rfl (Or.inl rfl) (pe_ix ix_list (pe_ix ix_list (pv 0) pe_int (fun _ _ => rfl)) (pe_op op_sub (pe_ix ix_list (pv 0) pe_int (fun _ _ => rfl)) pe_int) (fun _ _ => rfl)))
      (pss_cons (ps_asg (pe_op op_mod (pe_callTy call_int1 (by rfl) T.n_int (by decide +kernel) (pa_cons (pe_op op_add (pe_op op_add (pe_op op_mul (pe_ix ix_list (pv 0) pe_int (fun _ _ => rfl)) pe_int) (pv 3)) pe_int) pa_nil)) pe_int) (pg_sub (pv 0) pe_int set_list))
      (pss_cons (ps_asg (pe_ifExp (pt_cmpR op_ge (pv 3) (pe_op op_pow pe_int pe_int) (nomark _)) (pe_op op_fdiv (pv 3) (pv 1)) pe_int) (pg_sub (pv 0) pe_int set_list))
      (pss_one (ps_ret (pe_op op_mod (pe_callTy call_int1 (by rfl) T.n_int (by decide +kernel) (pa_cons (pv 3) pa_nil)) (pv 1)))))))))), ?_⟩
    have hr0 := l_of (K := K) sp.c0
    have md : ∀ z : Int, 0 ≤ z % m ∧ z % m < m := fun z => ⟨Int.emod_nonneg z (by omega), Int.emod_lt_of_pos z hm⟩
    refine ⟨_, rfl, _, _, _, _, rfl, rfl, hr0, rfl, _, _, rfl, rfl, decide (0 < x), rfl, ?_⟩
    by_cases hx : 0 < x
    · rw [decide_eq_true hx]
      refine iteT ⟨_, rfl, _, _, _, _, rfl, rfl, hr0, rfl, .inl ⟨_, rfl, _, rfl, _, _, rfl, rfl, hm, ?_⟩⟩
      refine ⟨_, rfl, _, _, _, _, rfl, rfl, hr0, rfl, _, rfl, _, _, rfl, rfl, ⟨hm, by omega⟩, ?_⟩
      refine ⟨_, rfl, _, _, _, 3, rfl, rfl, sp.c0, rfl, ?_⟩
      have sp1 := sp.put0 (o' := rowO sc i g (x / m))
      exact ⟨_, rfl, q _ _ _ _ _ hi hg (md _).1 (md _).2 sp1⟩
    rw [decide_eq_false hx]
    refine iteF ?_
    refine ⟨_, rfl, _, _, _, _, rfl, rfl, hr0, rfl, _, _, rfl, rfl, ?_⟩
    refine ⟨_, rfl, _, _, _, 1, rfl, rfl, sp.c0, rfl, ?_⟩
    have sp1 := sp.put0 (o' := rowO sc (i + 1) g x)
    have hr1 := l_of (K := K) sp1.c0
    have hsc1 := Same.lst sp1.ext hsc
    refine ⟨_, rfl, _, _, _, _, rfl, rfl, hr1, rfl, _, rfl, _, _, _, _, rfl, rfl, hr1, rfl, _, _, rfl, .inl hsc1, _, _, rfl, rfl, decide (((ns.map V.int).length : Int) < i + 1), rfl, ?_⟩
    have rest : ∀ (z : Int), 0 ≤ z % m ∧ z % m < m := md
    by_cases hlen : ((ns.map V.int).length : Int) < i + 1
    · rw [decide_eq_true hlen]
      refine iteT ⟨_, rfl, _, _, _, _, rfl, rfl, hr1, rfl, _, _, rfl, rfl, (by unfold CMul; omega), _, _, rfl, rfl, .inl ⟨_, rfl, _, _, rfl, rfl, (by show (0 : Int) < 2147483647; decide), ?_⟩⟩
      refine ⟨_, rfl, _, _, _, 2, rfl, rfl, sp1.c0, rfl, ?_⟩
      have sp2 := sp1.put0 (o' := rowO sc (i + 1) ((g * 48271 + 11) % 2147483647) x)
      have hr2 := l_of (K := K) sp2.c0
      refine ⟨_, rfl, _, _, _, _, rfl, rfl, hr2, rfl, _, _, rfl, rfl, ⟨by decide, by decide⟩, .inl ⟨_, rfl, _, rfl, _, _, rfl, rfl, hm, ?_⟩⟩
      exact q _ _ _ _ _ (by omega) ⟨Int.emod_nonneg _ (by decide), Int.emod_lt_of_pos _ (by decide)⟩ (md _).1 (md _).2 sp2
    rw [decide_eq_false hlen]
    refine iteF ?_
    have hin : i.toNat < (ns.map V.int).length := by omega
    have hget : (ns.map V.int)[i.toNat]? = some (.int (ns[i.toNat]'(by simpa using hin))) := by simp
    have hat : atI (ns.map V.int) (i + 1 - 1) = some (.int (ns[i.toNat]'(by simpa using hin))) := by
      rw [show i + 1 - 1 = ((i.toNat : Nat) : Int) by omega]
      exact atIn hget
    generalize ns[i.toNat]'(by simpa using hin) = y at hget hat
    refine ⟨_, rfl, _, _, _, _, rfl, rfl, hr1, rfl, _, rfl, _, _, _, _, rfl, rfl, hr1, rfl, _, _, rfl, rfl, _, _, _, _, rfl, rfl, hsc1, hat, ?_⟩
    refine ⟨_, rfl, _, _, _, _, rfl, rfl, hr1, rfl, _, _, rfl, rfl, (by unfold CMul; omega), _, rfl, _, _, rfl, rfl, _, _, rfl, rfl, .inl ⟨_, rfl, _, _, rfl, rfl, (by show (0 : Int) < 2147483647; decide), ?_⟩⟩
    refine ⟨_, rfl, _, _, _, 2, rfl, rfl, sp1.c0, rfl, ?_⟩
    have sp2 := sp1.put0 (o' := rowO sc (i + 1) ((g * 48271 + y + 11) % 2147483647) x)
    have hg2 : 0 ≤ (g * 48271 + y + 11) % 2147483647 ∧ (g * 48271 + y + 11) % 2147483647 < 2147483647 := ⟨Int.emod_nonneg _ (by decide), Int.emod_lt_of_pos _ (by decide)⟩
    refine ⟨_, rfl, _, _, rfl, rfl, ⟨by decide, by decide, by decide⟩, _, _, rfl, rfl, decide (10 ^ 18 ≤ y), rfl, ?_⟩
    by_cases hy : 10 ^ 18 ≤ y
    · rw [decide_eq_true hy]
      refine iteT ⟨_, rfl, _, rfl, _, _, rfl, rfl, ⟨hm, by omega⟩, ?_⟩
      refine ⟨_, rfl, _, _, _, 3, rfl, rfl, sp2.c0, rfl, ?_⟩
      have sp3 := sp2.put0 (o' := rowO sc (i + 1) ((g * 48271 + y + 11) % 2147483647) (y / m))
      exact ⟨_, rfl, .inl ⟨_, rfl, _, rfl, _, _, rfl, rfl, hm, q _ _ _ _ _ (by omega) hg2 (md _).1 (md _).2 sp3⟩⟩
    · rw [decide_eq_false hy]
      refine iteF ?_
      refine ⟨_, rfl, _, _, _, 3, rfl, rfl, sp2.c0, rfl, ?_⟩
      have sp3 := sp2.put0 (o' := rowO sc (i + 1) ((g * 48271 + y + 11) % 2147483647) 0)
      exact ⟨_, rfl, .inl ⟨_, rfl, _, rfl, _, _, rfl, rfl, hm, q _ _ _ _ _ (by omega) hg2 (md _).1 (md _).2 sp3⟩⟩
end
end Cb

/-! list.count of a pair of texts in a list of such pairs -/
namespace Cb
open PySem PySem.Spec PyProof.Rows L2
def SSAt (K : PySem.W.Frag) (H : Hp) (v : V) (p : Str × Str) : Prop := ∃ t, v = .ref t ∧ SqT K H t [.str p.1, .str p.2]
theorem SSAt.up {K : PySem.W.Frag} {H H' : Hp} {v : V} {p : Str × Str} (e : Same H H') (h : SSAt K H v p) : SSAt K H' v p := h.elim fun a z => ⟨a, z.1, Same.tup e z.2⟩
def rCntSS (K : PySem.W.Frag) : V → List V → Hp → VK → Prop := fun x xs H Q => ∃ (p : Addr) (ys : List V) (ps : List (Str × Str)) (y : V) (q : Str × Str), x = .ref p ∧ xs = [y] ∧ SqL K H p ys ∧ Paired (SSAt K H) ys ps ∧ SSAt K H y q ∧ Q (.int ((ps.countP fun z => decide (z = q) : Nat) : Int)) H
theorem ss_hold {X : Cx} {pins : List (Addr × Obj)} {σ : L2.St} {H : Hp} {s : Shared} {v : V} {u : Value} {p : Str × Str} (I : Inv X pins σ H s) (h : SSAt X.K H v p) (r : RelV v u) : PySem.W.Holds s.heap u p := by
  obtain ⟨t, rfl, ht⟩ := h
  cases r
  obtain ⟨its, rv, pl, _⟩ := I.tuple ht
  cases rv with
  | cons r1 rr =>
    cases rr with
    | cons r2 r3 =>
      cases r3
      obtain ⟨u, rfl⟩ := r1
      obtain ⟨w, rfl⟩ := r2
      exact PySem.W.holds_pair pl (PySem.W.holds_str _ _) (PySem.W.holds_str _ _)
theorem ss_all {X : Cx} {pins : List (Addr × Obj)} {σ : L2.St} {H : Hp} {s : Shared} (I : Inv X pins σ H s) : ∀ {xs : List V} {ps : List (Str × Str)} {us : List Value}, Paired (SSAt X.K H) xs ps → Vals xs us → PySem.W.HoldAll s.heap us ps
  | _, _, _, .nil, .nil => PySem.W.HoldAll.nil
  | _, _, _, .cons h q, .cons r rr => .cons (ss_hold I h r) (ss_all I q rr)
theorem rm_ss {u : Nat} (hu : u + 65 < cLine) : u + 1 + PySem.W.Datum.depth (Str × Str) < cLine := by
  have : PySem.W.Datum.depth (Str × Str) ≤ 60 := by decide
  omega
theorem mt_lcountSS {X : Cx} (hu : X.A.units + 65 < cLine) : MtR X "list.count" (rCntSS X.K) := by
  intro pins s σ H x xs v us Q I rx rxs h
  obtain ⟨p, ys, ps, y, q0, rfl, rfl, hs, hp, hy, q⟩ := h
  cases rx
  cases rxs with
  | cons ry rt =>
    cases rt
    obtain ⟨its, rv, hl, _⟩ := I.list hs
    exact PySem.W.count_list_datum hl.isList (by simpa using ss_all I hp rv) (ss_hold I hy ry) (rm_ss hu) ⟨.int _, H, I.tok _, ⟨_, rfl⟩, q⟩
end Cb

/-! k65: drawing beside a house; the house at first; what is counted -/
namespace Cb
open PySem PySem.Spec PyProof.Rows L2
/-- a house, and the row of the draws -/
def HDr (K : PySem.W.Frag) (X : AdH) (F : HFx) (K0 H : Hp) (h : HsD) (row sc : Addr) (M : List (Addr × HO)) : Prop := ∃ i g x, 0 ≤ i ∧ (0 ≤ g ∧ g < 2147483647) ∧ OwnH K X F K0 H h ((row, rowO sc i g x) :: M)
section
variable {K : PySem.W.Frag} {X : AdH} {F : HFx} {K0 K1 H H' : Hp} {h h' : HsD} {row sc : Addr} {M M' : List (Addr × HO)}
theorem HDr.ext (d : HDr K X F K0 H h row sc M) : Same K0 H := by
  obtain ⟨i, g, x, _, _, o⟩ := d
  exact o.ext
/-- a deed of the house -/
theorem HDr.deed (d : HDr K X F K0 H h row sc M) : ∃ N, OwnH K X F K0 H h (N ++ M) ∧ ∀ K1 H' h' M', OwnH K X F K1 H' h' (N ++ M') → HDr K X F K1 H' h' row sc M' := by
  obtain ⟨i, g, x, a, b, o⟩ := d
  exact ⟨[(row, rowO sc i g x)], o, fun K1 H' h' M' o' => ⟨i, g, x, a, b, o'⟩⟩
theorem HDr.dr (d : HDr K X F K0 H h row sc M) : ∃ N, Dr K0 H row sc N ∧ ∀ H', Dr K0 H' row sc N → HDr K X F K0 H' h row sc M := by
  obtain ⟨i, g, x, a, b, o⟩ := d
  obtain ⟨M1, ob, bk⟩ := o.board
  obtain ⟨L, sp, bk2⟩ := ob.lens
  refine ⟨M ++ M1 ++ L, ⟨i, g, x, a, b, sp⟩, fun H' d' => ?_⟩
  obtain ⟨i', g', x', a', b', sp'⟩ := d'
  exact ⟨i', g', x', a', b', bk K0 H' h.bo ((row, rowO sc i' g' x') :: M) (Same.refl _) (bk2 K0 H' ((row, rowO sc i' g' x') :: M ++ M1) (Same.refl _) sp')⟩
/-- a draw beside a house -/
theorem takenH {m : Int} {ns : List Int} {σ : L2.St} {Q : VK} {E : XK} {v : Nat} (hσ : σ[v]? = some (some (V.ref row))) (hm : 0 < m) (hm2 : m < 100000) (hsc : SqL K K0 sc (ns.map V.int)) (d : HDr K X F K0 H h row sc M) (q : ∀ H' r, 0 ≤ r → r < m → HDr K X F K0 H' h row sc M → Q (.int r) H') :
    tCall (sp_law_taken K) [] E (tCons (tVar v) (tCons (tC (.int m)) tNil)) σ H Q := by
  obtain ⟨N, dr, bk⟩ := d.dr
  exact takenV hσ hm hm2 hsc dr fun H' r h0 h1 d' => q H' r h0 h1 (bk H' d')
end
section
variable {K : PySem.W.Frag} {X : AdH} {F : HFx} {K0 K1 H H' : Hp} {h h' : HsD} {row sc p : Addr} {o o' : HO} {M M' : List (Addr × HO)} {e : Addr × HO}
theorem HDr.grow (d : HDr K X F K0 H h row sc M) (s : Same H H') : HDr K X F K0 H' h row sc M := by
  obtain ⟨i, g, x, a, b, ow⟩ := d
  exact ⟨i, g, x, a, b, ow.grow s⟩
theorem HDr.at0 (d : HDr K X F K0 H h row sc ((p, o) :: M)) : H p = some o := by
  obtain ⟨i, g, x, a, b, ow⟩ := d
  exact (ow.perm (List.Perm.swap _ _ _)).fr
theorem HDr.rowD (d : HDr K X F K0 H h row sc M) : Dr K0 H row sc [] := by
  obtain ⟨N, dr, _⟩ := d.dr
  obtain ⟨i, g, x, a, b, sp⟩ := dr
  exact ⟨i, g, x, a, b, Sep.weak (L := [(row, rowO sc i g x)]) (M := N) sp⟩
theorem HDr.own (d : HDr K X F K0 H h row sc M) (s : Same H H') (e : H p = none) (e' : H' p = some o) : HDr K X F K0 H' h row sc ((p, o) :: M) := by
  obtain ⟨i, g, x, a, b, ow⟩ := d
  exact ⟨i, g, x, a, b, (ow.own' s e e').perm (List.Perm.swap _ _ _)⟩
theorem HDr.new (d : HDr K X F K0 H h row sc M) (e : H p = none) : HDr K X F K0 (upd H p o) h row sc ((p, o) :: M) := d.own (same_new (Same.refl _) e) e upd_same
theorem HDr.drop (d : HDr K X F K0 H h row sc M) (e : H p = none) : HDr K X F K0 (upd H p o) h row sc M := d.grow (same_new (Same.refl _) e)
theorem HDr.put (d : HDr K X F K0 H h row sc ((p, o) :: M)) : HDr K X F K0 (upd H p o') h row sc ((p, o') :: M) := by
  obtain ⟨i, g, x, a, b, ow⟩ := d
  exact ⟨i, g, x, a, b, (ow.perm (List.Perm.swap _ _ _)).put.perm (List.Perm.swap _ _ _)⟩
theorem HDr.keep (d : HDr K X F K0 H h row sc M) (e : H p = none) : HDr K X F (upd K0 p o) (upd H p o) h row sc M ∧ Same K0 (upd K0 p o) := by
  obtain ⟨i, g, x, a, b, ow⟩ := d
  obtain ⟨o2, s⟩ := ow.keep (x := o) e
  exact ⟨⟨i, g, x, a, b, o2⟩, s⟩
theorem HDr.freeze (d : HDr K X F K0 H h row sc ((p, o) :: M)) : HDr K X F (upd K0 p o) H h row sc M ∧ Same K0 (upd K0 p o) := by
  obtain ⟨i, g, x, a, b, ow⟩ := d
  obtain ⟨o2, s⟩ := (ow.perm (List.Perm.swap _ _ _)).freeze
  exact ⟨⟨i, g, x, a, b, o2⟩, s⟩
theorem HDr.perm (d : HDr K X F K0 H h row sc M) (q : M'.Perm M) : HDr K X F K0 H h row sc M' := by
  obtain ⟨i, g, x, a, b, ow⟩ := d
  exact ⟨i, g, x, a, b, ow.perm (List.Perm.cons _ q)⟩
theorem HDr.tail (d : HDr K X F K0 H h row sc (e :: M)) : HDr K X F K0 H h row sc M := by
  obtain ⟨i, g, x, a, b, ow⟩ := d
  exact ⟨i, g, x, a, b, (ow.perm (List.Perm.swap _ _ _)).tail⟩
end
/-- the house at first -/
theorem inv0 {F : HFx} {hd : LineD} (C : Calm F.S hd) (c1 : 1 ≤ F.c) (rt : ∀ n, F.rt n = firstR F.c) (ds : F.ds = []) : Inv65 F hd (hs0 F.S F.c) false := by
  have g0 : ∀ k, (List.replicate F.c pr0).getD k pr0 = pr0 := fun k => by
    rw [List.getD_eq_getElem?_getD, List.getElem?_replicate]
    split <;> rfl
  refine ⟨rfl, c1, rt, ds, fun _ => rfl, rfl, rfl, fun _ => .inl rfl, rfl, List.length_replicate, fun p hp => ?_, ?_, fun k _ => ?_⟩
  · rw [(List.mem_replicate.mp hp).2]
    exact ⟨fun c h => (List.not_mem_nil h).elim, List.Pairwise.nil, fun r h => (List.not_mem_nil h).elim⟩
  · show ((List.replicate F.c pr0).getD 0 pr0).bar = 0 ∧ ((List.replicate F.c pr0).getD 0 pr0).rows = [] ∧ (∀ c ∈ ((List.replicate F.c pr0).getD 0 pr0).stack, c.kept = 0) ∧ ((∃ c ∈ ((List.replicate F.c pr0).getD 0 pr0).stack, c.line = hd) ↔ false = true)
    rw [g0]
    refine ⟨rfl, rfl, fun c h => (List.not_mem_nil h).elim, ⟨?_, fun h => by cases h⟩⟩
    rintro ⟨c, h, _⟩
    exact (List.not_mem_nil h).elim
  · show ((List.replicate F.c pr0).getD k pr0).stack = [] ∧ ((List.replicate F.c pr0).getD k pr0).rows = []
    rw [g0]
    exact ⟨rfl, rfl⟩
/-- the greatest rank comes first -/
theorem calm_of {S : SetD} {hd : LineD} (ok : SetOk S) (hl : hd ∈ S.ls) (lv : hd.lvl = true) (rk : hd.rank = 9) (ot : ∀ l ∈ S.ls, l ≠ hd → l.rank ≤ 8) (st : ∀ l ∈ S.ls, ∃ n, l.steps = [.run n] ∧ 1 ≤ n) : Calm S hd := by
  refine ⟨ok, ?_, hl, lv, rk, ot, st⟩
  have hm := ok.mem hl
  cases e : S.order with
  | nil => rw [e] at hm; cases hm
  | cons n0 r =>
    refine ⟨r.map (lineOf S), ?_⟩
    have n0m : n0 ∈ S.order := by rw [e]; exact List.mem_cons_self
    obtain ⟨l0, hl0, en⟩ := ok.line n0m
    have q : l0 = hd := by
      by_cases q : l0 = hd
      · exact q
      · have hr : hd.name ∈ r := by
          rw [e] at hm
          rcases List.mem_cons.mp hm with h | h
          · exact absurd (nm_inj ok.ok.nd hl0 hl (en.trans h.symm)) q
          · exact h
        have sr := ok.srt
        rw [e] at sr
        have z := (List.pairwise_cons.mp sr).1 hd.name hr l0 hl0 hd hl en rfl
        have r8 := ot l0 hl0 q
        unfold lexIS at z
        rw [if_neg (by show ¬ -hd.rank = -l0.rank; omega)] at z
        have z2 := of_decide_eq_false z
        have z3 : ¬ -hd.rank < -l0.rank := z2
        omega
    unfold linesO
    rw [e, List.map_cons, ← en, lineOf_eq ok hl0, q]
end Cb

/-! how much a tick lets a house grow -/
namespace Cb
open PySem PySem.Spec PyProof.Rows L2
structure TickLe (F : HFx) (h h' : HsD) : Prop where
  gp : ∀ p ∈ h'.ps, PrG F.S p
  rg : h'.bo.rg.length ≤ h.bo.rg.length + 576
  ev : h'.ev.length ≤ h.ev.length + 156 + 6 * (577 + sumR h.ps)
  cn : ∀ m, (h'.wd.cnt m).length ≤ (h.wd.cnt m).length + 72
  pl : h'.ps.length = F.c
  sl : h'.sts.length = F.c
  on : runH F h' = runH F h
theorem offS_gp {F : HFx} {h : HsD} {k : Nat} (hr : ∀ p ∈ h.ps, PrG F.S p) (ri : ∀ p ∈ (offS F h k).ps, RowsIn F.S.ws p.rows) : ∀ p ∈ (offS F h k).ps, PrG F.S p := by
  unfold offS at ri ⊢
  split
  · next hc =>
    rw [if_pos hc] at ri
    intro x hx
    have rx := ri x hx
    generalize hh : ({ h with sts := h.sts.set k "off", ev := h.ev ++ [.off h.bo.tk k] } : HsD) = h1 at hx
    have f1 : h1.ps = h.ps := by rw [← hh]
    have gd : ∀ j, PrG F.S (h1.ps.getD j pr0) := fun j => by
      rw [f1, List.getD_eq_getElem?_getD]
      cases e : h.ps[j]? with
      | some p => exact hr p (List.mem_of_getElem? e)
      | none => exact ⟨(fun c h => (List.not_mem_nil h).elim), List.Pairwise.nil, fun r h => (List.not_mem_nil h).elim⟩
    have hx : x ∈ ((h1.ps.set k { h1.ps.getD k pr0 with rows := [] }).set (tgt F h1) { h1.ps.getD (tgt F h1) pr0 with rows := handR F.S.ws (h1.ps.getD (tgt F h1) pr0).rows (h1.ps.getD k pr0).rows }) := hx
    rcases List.mem_or_eq_of_mem_set hx with hx | rfl
    · rcases List.mem_or_eq_of_mem_set hx with hx | rfl
      · exact hr x (by rw [← f1]; exact hx)
      · exact ⟨(gd k).calls, (gd k).asc, rx⟩
    · exact ⟨(gd _).calls, (gd _).asc, rx⟩
  · exact hr
theorem tick_le {F : HFx} {h : HsD} (ok : SetOk F.S) (gp : ∀ p ∈ h.ps, PrG F.S p) (pl : h.ps.length = F.c) (sl : h.sts.length = F.c) (c6 : F.c ≤ 6) (ne : runH F h ≠ []) : TickLe F h (tickH F h) := by
  have ps1 := placesH_same (F := F) (h := h) (ls := freeLs F h)
  have fl12 : (freeLs F h).length ≤ 12 := Nat.le_trans (List.length_filter_le _ _) (linesO_len ok)
  have e1 : placesH F h (freeLs F h) = tick1 F h := rfl
  rw [e1] at ps1
  obtain ⟨pa, pb, pc, pd, pf⟩ := ps1
  have g1 : HGrow F (tick1 F h) (tick1 F h) 0 := ⟨by rw [pa]; exact gp, by rw [pa]; exact pl, rfl, Nat.le_refl _, Nat.le_refl _, Nat.le_refl _, fun _ => Nat.le_refl _⟩
  have r1 : runH F (tick1 F h) = runH F h := run_congr fun j => by rw [pb]
  have rl : (runH F (tick1 F h)).length ≤ 6 := by
    have z := List.length_filter_le (isOn (tick1 F h).sts) (List.range F.c)
    rw [List.length_range] at z
    unfold runH
    omega
  have e3 : takesH F (tick1 F h) (runH F (tick1 F h)) = tick2 F h := rfl
  have G2 := takesH_grow ok g1 (ks := runH F (tick1 F h)) fun k m => run_lt m
  rw [e3] at G2
  have gg2 : HGrow F (tick2 F h) (tick2 F h) 0 := ⟨G2.gp, G2.pl, rfl, Nat.le_refl _, Nat.le_refl _, Nat.le_refl _, fun _ => Nat.le_refl _⟩
  have G3 := goesH_grow ok gg2 (Nat.le_refl F.c)
  have e5 : goesH F (tick2 F h) F.c = tick3 F h := rfl
  rw [e5] at G3
  have r3 : runH F (tick3 F h) = runH F h := run_congr fun j => by rw [G3.st, G2.st, pb]
  have s3 : (tick3 F h).sts.length = F.c := by rw [G3.st, G2.st, pb]; exact sl
  have o0 : OffLe F (tick3 F h) (tick3 F h) 0 := ⟨rfl, rfl, G3.pl, s3, fun _ => rfl, fun p hp => ⟨(G3.gp p hp).ri, by have := (G3.gp p hp).len ok; omega⟩, Nat.le_refl _, by simp⟩
  have O := offsH_le o0 (by rw [r3]; exact ne) (Nat.le_refl F.c)
  have e6 : offsH F (tick3 F h) F.c = tick4 F h := rfl
  have gp4 : ∀ n, n ≤ F.c → ∀ p ∈ (offsH F (tick3 F h) n).ps, PrG F.S p := fun n => by
    induction n with
    | zero => intro _; exact G3.gp
    | succ n ih =>
      intro hn
      have z := (offsH_le o0 (by rw [r3]; exact ne) hn).ri
      rw [offsH_succ] at z ⊢
      exact offS_gp (ih (by omega)) fun p hp => (z p hp).1
  have gp5 := gp4 F.c (Nat.le_refl _)
  rw [e6] at O gp5
  have b1 := G2.sr
  have b2 := G2.rg
  have b3 := G2.ev
  have b4 := G2.cn
  rw [pa] at b1
  rw [pd] at b2
  rw [pc] at b4
  have d1 := G3.sr
  have d2 := G3.rg
  have d3 := G3.ev
  have d4 := G3.cn
  have oe := O.ev
  have m6 : F.c * (1 + sumR (tick3 F h).ps) ≤ 6 * (577 + sumR h.ps) := Nat.mul_le_mul c6 (by omega)
  refine ⟨gp5, ?_, ?_, fun m => ?_, O.pl, O.sl, ?_⟩
  · show (tick4 F h).bo.rg.length ≤ _
    rw [O.bo]
    omega
  · show (tick4 F h).ev.length ≤ _
    omega
  · show ((tick4 F h).wd.cnt m).length ≤ _
    rw [O.wd]
    have := b4 m
    have := d4 m
    omega
  · have : runH F (tickH F h) = runH F (tick4 F h) := rfl
    rw [this, run_congr O.on, r3]
end Cb

namespace Cb
open PySem PySem.Spec PyProof.Rows L2

structure Oth65 (l : LineD) (n : Str) : Prop where
  nm : l.name = n
  lv : l.lvl = false
  r1 : 1 ≤ l.rank
  r8 : l.rank ≤ 8
  st : ∃ k, l.steps = [.run k] ∧ 1 ≤ k ∧ k ≤ 99
def nm65 (r : Int) : List Str := (["net", "disk"] : List Str).take r.toNat
theorem nm65_len (r : Int) : (nm65 r).length ≤ 2 := by
  unfold nm65
  rw [List.length_take]
  simp
  omega
def hd65 (k0 : Int) : LineD := ⟨"heat", true, 9, [.run (1 + k0)]⟩
theorem wsok_nil : WsOk [] := ⟨(fun _ m => nomatch m), List.nodup_nil, by decide⟩
theorem oth_nm : ∀ {ls : List LineD} {ns : List Str}, Paired Oth65 ls ns → ls.map (·.name) = ns
  | _, _, .nil => rfl
  | _, _, .cons o p => by rw [List.map_cons, o.nm, oth_nm p]
theorem oth_at {ls : List LineD} {ns : List Str} (p : Paired Oth65 ls ns) {l : LineD} (m : l ∈ ls) : ∃ n ∈ ns, Oth65 l n := by
  obtain ⟨i, hi⟩ := List.mem_iff_getElem?.mp m
  obtain ⟨n, hn, o⟩ := pget p hi
  exact ⟨n, List.mem_of_getElem? hn, o⟩
theorem nm65_ok (r : Int) : (∀ n ∈ nm65 r, nameOk n) ∧ ((("heat" : Str) :: nm65 r)).Nodup := by
  have h : ∀ i : Nat, (∀ n ∈ (["net", "disk"] : List Str).take i, n ∈ (["net", "disk"] : List Str)) := fun i n m => List.mem_of_mem_take m
  refine ⟨fun n m => ?_, ?_⟩
  · have := h _ n m
    simp at this
    rcases this with rfl | rfl
    · exact ⟨by decide, by decide +kernel⟩
    · exact ⟨by decide, by decide +kernel⟩
  · have nd : (("heat" : Str) :: ["net", "disk"]).Nodup := by decide +kernel
    exact nd.sublist (List.Sublist.cons_cons _ (List.take_sublist _ _))
theorem ls65_ok {k0 r : Int} {ls : List LineD} (h0 : 0 ≤ k0) (h1 : k0 < 4) (po : Paired Oth65 ls (nm65 r)) : LsOk (hd65 k0 :: ls) ∧ AllOk (hd65 k0 :: ls) [] := by
  have N := nm65_ok r
  have hl := po.length
  have hn := nm65_len r
  refine ⟨⟨fun l m => ?_, ?_, List.cons_ne_nil _ _, by rw [List.length_cons]; omega⟩, fun l m s ms => ?_⟩
  · rcases List.mem_cons.mp m with rfl | m
    · exact ⟨⟨show ("heat" : Str).length ≤ 8 by decide, show letters "heat" = true by decide +kernel⟩, show (1 : Int) ≤ 9 by decide, show (9 : Int) ≤ 9 by decide, Nat.le_refl 1, show 1 ≤ 8 by decide⟩
    · obtain ⟨n, hm, o⟩ := oth_at po m
      obtain ⟨k, e, _⟩ := o.st
      refine ⟨o.nm ▸ N.1 n hm, o.r1, by have := o.r8; omega, by rw [e]; exact Nat.le_refl 1, by rw [e]; show 1 ≤ 8; decide⟩
  · rw [List.map_cons, oth_nm po]
    exact N.2
  · rcases List.mem_cons.mp m with rfl | m
    · have ms : s ∈ [SD.run (1 + k0)] := ms
      rw [List.mem_singleton.mp ms]
      exact ⟨by omega, by omega⟩
    · obtain ⟨n, hm, o⟩ := oth_at po m
      obtain ⟨k, e, a, b⟩ := o.st
      rw [e] at ms
      rw [List.mem_singleton.mp ms]
      exact ⟨a, b⟩
theorem calm65 {k0 r : Int} {ls : List LineD} {S : SetD} (h0 : 0 ≤ k0) (ok : SetOk S) (e : S.ls = hd65 k0 :: ls) (po : Paired Oth65 ls (nm65 r)) : Calm S (hd65 k0) := by
  refine calm_of ok (by rw [e]; exact List.mem_cons_self) rfl rfl (fun l m ne => ?_) fun l m => ?_
  · rw [e] at m
    rcases List.mem_cons.mp m with q | m
    · exact absurd q ne
    · exact (oth_at po m).elim fun n z => z.2.r8
  · rw [e] at m
    rcases List.mem_cons.mp m with rfl | m
    · exact ⟨1 + k0, rfl, by omega⟩
    · obtain ⟨n, hm, o⟩ := oth_at po m
      obtain ⟨k, e, a, b⟩ := o.st
      exact ⟨k, e, a⟩
/-- bounds after n ticks -/
structure Bd65 (F : HFx) (h : HsD) (n : Nat) : Prop where
  rg : h.bo.rg.length ≤ 600 * n
  ev : h.ev.length ≤ 4000 * n
  cn : ∀ m, (h.wd.cnt m).length ≤ 80 * n
theorem own65 {o : Option Int} : decide (optV o = V.non) = o.isNone := by cases o <;> rfl
structure Near65 (h h' : HsD) (n : Nat) : Prop where
  rg : h'.bo.rg.length ≤ h.bo.rg.length + n
  ow : h'.bo.ow = h.bo.ow
  ev : h'.ev = h.ev
  bt : h'.bt = h.bt
  wd : h'.wd = h.wd
theorem Near65.refl (h : HsD) (n : Nat) : Near65 h h n := ⟨by omega, rfl, rfl, rfl, rfl⟩
theorem Near65.tr {a b c : HsD} {m n : Nat} (x : Near65 a b m) (y : Near65 b c n) : Near65 a c (m + n) := ⟨by have := x.rg; have := y.rg; omega, y.ow.trans x.ow, y.ev.trans x.ev, y.bt.trans x.bt, y.wd.trans x.wd⟩
theorem near_ring {h : HsD} (n : Str) : Near65 h { h with bo := ringB h.bo n } 1 := by
  refine ⟨?_, rfl, rfl, rfl, rfl⟩
  show (ringB h.bo n).rg.length ≤ _
  cases e : h.bo.lev n with
  | true => rw [ringB_lvl e]; show h.bo.rg.length ≤ _; omega
  | false =>
    rw [ringB_edge e]
    show (h.bo.rg ++ [_]).length ≤ _
    simp
theorem near_quiet {h : HsD} (n : Str) : Near65 h { h with bo := quietB h.bo n } 1 := ⟨by show h.bo.rg.length ≤ _; omega, rfl, rfl, rfl, rfl⟩
def hdE : HEv → Str × Str
  | .four w _ n _ => (w, n)
  | _ => ("", "")
theorem cnt65 {hd : LineD} : ∀ {l : List HEv}, (∀ e ∈ l, isF e = true) → (l.map hdE).countP (fun z => decide (z = (("begin" : Str), hd.name))) = l.countP (isB hd)
  | [], _ => rfl
  | .four w t n p :: l, h => by
    have ih := cnt65 (hd := hd) fun e m => h e (List.mem_cons_of_mem _ m)
    rw [List.map_cons, List.countP_cons, List.countP_cons, ih]
    have : decide ((w, n) = (("begin" : Str), hd.name)) = (decide (w = "begin") && decide (n = hd.name)) := by
      rw [Bool.eq_iff_iff]
      simp
    show _ + (if decide ((w, n) = _) = true then 1 else 0) = _ + (if (decide (w = "begin") && decide (n = hd.name)) = true then 1 else 0)
    rw [this]
  | .held .. :: l, h => by have := h _ List.mem_cons_self; cases this
  | .off .. :: l, h => by have := h _ List.mem_cons_self; cases this
theorem sum0 : ∀ {l : List Nat}, (∀ x ∈ l, x = 0) → l.sum = 0
  | [], _ => rfl
  | a :: l, h => by rw [List.sum_cons, h a List.mem_cons_self, sum0 fun x m => h x (List.mem_cons_of_mem _ m)]
theorem sum65 {F : HFx} {hd : LineD} {h : HsD} {b : Bool} (I : Inv65 F hd h b) : sumR h.ps = 0 := by
  unfold sumR
  refine sum0 fun x hx => ?_
  obtain ⟨p, hp, rfl⟩ := List.mem_map.mp hx
  obtain ⟨k, hk⟩ := List.mem_iff_getElem?.mp hp
  have e : h.ps.getD k pr0 = p := by rw [List.getD_eq_getElem?_getD, hk]; rfl
  rcases Nat.eq_zero_or_pos k with z | z
  · have y := I.p0.2.1
    rw [← z, e] at y
    rw [y]
    rfl
  · have y := (I.pk k z).2
    rw [e] at y
    rw [y]
    rfl
theorem run65 {F : HFx} {hd : LineD} {h : HsD} {b : Bool} (I : Inv65 F hd h b) : runH F h ≠ [] := by
  rw [run1 I.sts]
  intro z
  have := congrArg List.length z
  rw [List.length_range] at this
  have := I.c1
  simp at *
  omega
theorem cut65 {r : Int} (h0 : 0 ≤ r) (h1 : r < 3) : cutV [V.str "net", V.str "disk"] none (some r) = (nm65 r).map V.str := by
  have : r = 0 ∨ r = 1 ∨ r = 2 := by omega
  rcases this with rfl | rfl | rfl <;> rfl
theorem strs_get {l : List Str} {i : Nat} {v : V} (h : (l.map V.str)[i]? = some v) : ∃ k, l[i]? = some k ∧ V.str k = v := by
  rw [List.getElem?_map] at h
  exact Option.map_eq_some_iff.mp h
section
variable {P : Program} {w : World} {K : PySem.W.Frag} {mg : Str → Option Value} {base : Heap}
theorem okX_House_callO {fd : FuncData} (T : Txt K mg) (F : FunD K "__call__" "House.__call__" (C8.fnArgs s_House_call) (C8.fnBody s_House_call) (C8.fnScope s_House_call) [] [] (He.ma K (aC "House" K) "__call__") fd) :
    StX.CallO K (aC "House" K) (He.ma K (aC "House" K) "__call__") := by
  obtain ⟨oc, od, dV, kV, doc, pm, an, cdv, ct, osl, e, l, c⟩ := fun_c8 F
  exact ⟨T.m_House_call.at_, T.m_House_call.fn, by unfold PySem.W.fnIn; rw [l, e]⟩
theorem okX_House_callR {fd : FuncData} (T : Txt K mg) (F : FunD K "__call__" "House.__call__" (C8.fnArgs s_House_call) (C8.fnBody s_House_call) (C8.fnScope s_House_call) [] [] (He.ma K (aC "House" K) "__call__") fd) (c_call : C8.Met P w K mg base 7 (aC "House" K) "__call__" (sp_House_call K) []) :
    FnR P w K mg base C8.CX0 7 (He.ma K (aC "House" K) "__call__") (sp_House_call K) := by
  obtain ⟨f, fd, ps, ds, hc, hm, F, hb, hv⟩ := c_call.ex
  cases hv
  have e : He.ma K (aC "House" K) "__call__" = f := by
    have z := T.m_House_call.at_.symm.trans hm.at_
    injection z with z
    injection z with z
    injection z
  rw [e]
  exact fnR_of F hb
end

section
variable {P : Program} {w : World} {K : PySem.W.Frag} {mg : Str → Option Value} {base : Heap}

abbrev N_law : List Str := ["_law_script", "_law_row", "_law_turn", "_law_count", "_law_cost", "_law_lines", "_law_name", "_law_house", "_law_is_high", "_law_tick", "_law_before", "_law_is_free", "_law_done", "_law_events", "_law_began", "_law_event"]
theorem sc_law : FnScope N_law ["_law_script"] (C8.fnScope s_law) := C8.fnScope_by (by decide +kernel)
theorem ok_law {fd : FuncData} (T : Txt K mg) (F : FunD K "law" "law" (C8.fnArgs s_law) (C8.fnBody s_law) (C8.fnScope s_law) [] [] (He.ga K "law") fd) (c__law_taken : C8.Cal P w K mg base 1 "_law_taken" (sp_law_taken K) []) (co_House : StX.CallO K (aC "House" K) (He.ma K (aC "House" K) "__call__")) (fr_call : FnR P w K mg base C8.CX0 7 (He.ma K (aC "House" K) "__call__") (sp_House_call K)) (c_Setup1 : C8.Mak P w K mg base 6 "Setup" (aC "Setup" K) (sp_Setup_init K) [.ref (He.dflAt ("Setup", some "__init__") 0 K)]) (c_House : C8.Mak P w K mg base 8 "House" (aC "House" K) (sp_House_init K) [.ref (kwAt (He.ma K (aC "House" K) "__init__") "routes" K), .ref (kwAt (He.ma K (aC "House" K) "__init__") "storms" K)]) (c_begin_counts : FnP P w K mg base 1 (prA "House" "begin_counts" K) (sp_House_begin_counts K)) (c_ring : C8.Met P w K mg base 7 (aC "House" K) "ring" (sp_House_ring K) []) (c_quiet : C8.Met P w K mg base 9 (aC "House" K) "quiet" (sp_House_quiet K) []) (c_tick : C8.Met P w K mg base 18 (aC "House" K) "tick" (sp_House_tick K) []) :
    FnOk P w K mg base C8.CX0 20 (He.ga K "law") fd ["_law_script"] (sp_law K) := by
  refine C8.fn0 (fun_c8 F) sc_law (fun vs H Q E h => ?_) (fun cdv A outer s H vs Q E hr h => ?_)
  · obtain ⟨_, _, rfl, _⟩ := h
    rfl
  · have nd := sc_law.nd
    have hu := hu_of hr
    obtain ⟨a, ns, rfl, hs, q⟩ := h
    obtain ⟨pb, hpb⟩ := T.p_House_begin_counts
    refine ⟨_, (pss_cons (ps_set (i := 1) nd rfl (Or.inl rfl) (pe_lst (pa_cons (pv 0) (pa_cons pe_int (pa_cons pe_int (pa_cons pe_int pa_nil))))))
      (pss_cons (ps_for PassesOwn.never rfl (pi_range1 (by rfl) T.n_range (pa_cons pe_int pa_nil)) (pg_name (i := 2) nd rfl (Or.inl rfl)) (pss_cons (ps_par (i := 3) (j := 4) rfl nd rfl rfl (by decide) rfl rfl (pa_cons (pe_op op_add pe_int (C8.pe_c c__law_taken hr (by decide) rfl (pa_cons (pv 1) (pa_cons pe_int pa_nil)))) (pa_cons (pe_op op_add pe_int (C8.pe_c c__law_taken hr (by decide) rfl (pa_cons (pv 1) (pa_cons pe_int pa_nil)))) pa_nil)) rfl)
      (pss_cons (ps_set (i := 5) nd rfl (Or.inl rfl) (pe_lst (pa_cons (pe_tup (pa_cons pe_str (pa_cons pe_str (pa_cons pe_int (pa_cons (pe_tup (pa_cons (pe_tup (pa_cons pe_str (pa_cons (pv 4) pa_nil))) pa_nil)) pa_nil))))) pa_nil)))
      (pss_cons (ps_for PassesOwn.never rfl (pi_list (pe_slice sl_list (pe_lst (pa_cons pe_str (pa_cons pe_str pa_nil))) po_none (po_some (C8.pe_c c__law_taken hr (by decide) rfl (pa_cons (pv 1) (pa_cons pe_int pa_nil)))))) (pg_name (i := 6) nd rfl (Or.inl rfl)) (pss_one (ps_expr (pe_bm PySem.F.plainAttrs_list PySem.F.slot_list_append PySem.F.type_list_append mt_append (pv 5) (pa_cons (pe_tup (pa_cons (pv 6) (pa_cons pe_str (pa_cons (pe_op op_add pe_int (C8.pe_c c__law_taken hr (by decide) rfl (pa_cons (pv 1) (pa_cons pe_int pa_nil)))) (pa_cons (pe_tup (pa_cons (pe_tup (pa_cons pe_str (pa_cons (pe_op op_add pe_int (C8.pe_c c__law_taken hr (by decide) rfl (pa_cons (pv 1) (pa_cons pe_int pa_nil)))) pa_nil))) pa_nil)) pa_nil))))) pa_nil)))))
      (pss_cons (ps_set (i := 7) nd rfl (Or.inl rfl) (C8.pe_mk c_House hr (by decide) rfl (pa_cons (C8.pe_mk c_Setup1 hr (by decide) rfl (pa_cons (pe_callTy call_tuple_of (by rfl) T.n_tuple (by decide +kernel) (pa_cons (pv 5) pa_nil)) pa_nil)) (pa_cons (pv 3) pa_nil))))
      (pss_cons (ps_set (i := 8) nd rfl (Or.inl rfl) pe_bl)
      (pss_one (ps_for PassesOwn.never rfl (pi_range1 (by rfl) T.n_range (pa_cons pe_int pa_nil)) (pg_name (i := 9) nd rfl (Or.inl rfl)) (pss_cons (ps_set (i := 10) nd rfl (Or.inl rfl) (pe_dget hu (C_prop hpb T.cl_House c_begin_counts hr (by decide) (pv 7)) pe_str (fun _ _ => rfl)))
      (pss_cons (ps_set (i := 11) nd rfl (Or.inl rfl) (pe_cmpR op_isN (pe_ix ix_tup (StX.pe_callO (E := C8.E0) (pv 7) co_House fr_call (hr.mono (by decide)) (fun _ _ _ _ _ _ _ h => h.elim) (pa_cons pe_str pa_nil)) pe_int (fun _ _ => rfl)) pe_non (nomark _)))
      (pss_cons (ps_if (pt_cmpR op_eq (C8.pe_c c__law_taken hr (by decide) rfl (pa_cons (pv 1) (pa_cons pe_int pa_nil))) pe_int (nomark _)) (pss_cons (ps_set (i := 8) nd rfl (Or.inl rfl) (pe_not (pv 8)))
      (pss_cons (ps_set (i := 12) nd rfl (Or.inl rfl) (pe_ifExp (pt_val (pv 8)) (pe_cmpR op_eq (C8.pe_mt c_ring hr (by decide) (pv 7) (pa_cons pe_str pa_nil)) pe_str (nomark _)) (C8.pe_mt c_quiet hr (by decide) (pv 7) (pa_cons pe_str pa_nil))))
      (pss_one (ps_if (pt_not (pt_val (pv 12))) (pss_one (ps_ret pe_bl)) pss_nil)))) pss_nil)
      (pss_cons (ps_if (PW.pt (pw_and (pt_cmpR op_gt (pe_callB call_len_seq (by rfl) T.n_len (by decide +kernel) (pa_cons (pv 5) pa_nil)) pe_int (nomark _)) (pw_and1 (pt_cmpR op_eq (C8.pe_c c__law_taken hr (by decide) rfl (pa_cons (pv 1) (pa_cons pe_int pa_nil))) pe_int (nomark _))))) (pss_one (ps_expr (C8.pe_mt c_ring hr (by decide) (pv 7) (pa_cons (pe_ix ix_tup (pe_ix ix_list (pv 5) pe_int (fun _ _ => rfl)) pe_int (fun _ _ => rfl)) pa_nil)))) pss_nil)
      (pss_cons (ps_set (i := 13) nd rfl (Or.inl rfl) (C8.pe_mt0 c_tick hr (by decide) (pv 7)))
      (pss_cons (ps_set (i := 14) nd rfl (Or.inl rfl) (pe_op op_sub (pe_dget hu (C_prop hpb T.cl_House c_begin_counts hr (by decide) (pv 7)) pe_str (fun _ _ => rfl)) (pv 10)))
      (pss_cons (ps_if (pt_cmpR op_ne (pv 14) (pe_callTy call_int1 (by rfl) T.n_int (by decide +kernel) (pa_cons (pe_and (pv 8) (pe_one (pv 11))) pa_nil)) (nomark _)) (pss_one (ps_ret pe_bl)) pss_nil)
      (pss_one (ps_if (pt_cmpR op_ne (pe_bm PySem.F.plainAttrs_list PySem.F.slot_list_count PySem.F.type_list_count (mt_lcountSS (hu65_of hr)) (pe_lc (own := [("_law_event", 15)]) rfl nd (pi_list (pv 13)) (blkOk_by (own := [("_law_event", 15)]) (N := N_law) (sc := (C8.fnScope s_law)) (by decide +kernel)) (fun _ _ _ _ _ => (pg_name (i := 15) nd rfl (Or.inl rfl))) (fun _ _ _ _ _ => pts_nil) (fun _ _ _ _ _ => (pe_op (op_catA : OpR _ (binaryOp .Add) (rCatA K)) (pe_slice (sl_tup : SlR _ (rSlT K)) (pv 15) po_none (po_some pe_int)) (pe_slice (sl_tup : SlR _ (rSlT K)) (pv 15) (po_some pe_int) (po_some pe_int))))) (pa_cons (pe_tup (pa_cons pe_str (pa_cons pe_str pa_nil))) pa_nil)) (pv 14) (nomark _)) (pss_one (ps_ret pe_bl)) pss_nil)))))))))))))))))
      (pss_one (ps_ret pe_bl)))), ?_⟩
    refine ⟨_, rfl, small8 (by simp), fun row hrow => ?_⟩
    have d0 : Dr H (upd H row (rowO a 0 0 0)) row a [] := ⟨0, 0, 0, by omega, ⟨by omega, by omega⟩, Sep.nil.own hrow⟩
    refine ⟨3, rfl, by omega, by omega, ?_⟩
    refine for_it (walk_range (lo := 0) (n := (3 : Int).toNat)) (fun i σ H' => ∃ y2 y3 y4 y5 y6 y7 y8 y9 yA yB yC yD yE yF K', σ = [some (.ref a), some (.ref row), y2, y3, y4, y5, y6, y7, y8, y9, yA, yB, yC, yD, yE, yF] ∧ Same H K' ∧ Dr K' H' row a []) ⟨_, _, _, _, _, _, _, _, _, _, _, _, _, _, H, rfl, Same.refl _, d0⟩ (fun _ _ _ _ _ => trivial) ?_ ?_
    rotate_left
    · rintro σ H' ⟨y2, y3, y4, y5, y6, y7, y8, y9, yA, yB, yC, yD, yE, yF, K', rfl, g, d⟩
      exact q H'
    rintro i v σ H1 H2 hi ⟨y2, y3, y4, y5, y6, y7, y8, y9, yA, yB, yC, yD, yE, yF, K2, rfl, g2, d2⟩ ⟨rfl, rfl⟩
    have sc2 := Same.lst g2 hs
    refine takenV (v := 1) rfl (by decide) (by decide) sc2 d2 fun H3 c0 hc0 hc1 d3 => ?_
    refine ⟨_, _, rfl, rfl, ?_⟩
    refine takenV (v := 1) rfl (by decide) (by decide) sc2 d3 fun H4 k0 hk0 hk1 d4 => ?_
    refine ⟨_, _, rfl, rfl, ?_⟩
    refine ⟨_, _, rfl, ?_⟩
    refine ⟨_, rfl, small8 (by simp), fun t1 ht1 => ?_⟩
    have kk := d4.keep (o := .tup [.str "run", .int (1 + k0)]) ht1
    have at1 : upd K2 t1 (.tup [.str "run", .int (1 + k0)]) t1 = some (.tup [.str "run", .int (1 + k0)]) := upd_same
    revert kk at1
    generalize upd K2 t1 (.tup [.str "run", .int (1 + k0)]) = K3
    rintro ⟨d5, g3⟩ at1
    refine ⟨small8 (by simp), fun h1 hh1 => ?_⟩
    have kk := d5.keep (o := .tup [.ref t1]) hh1
    have at2 : upd K3 h1 (.tup [.ref t1]) h1 = some (.tup [.ref t1]) := upd_same
    revert kk at2
    generalize upd K3 h1 (.tup [.ref t1]) = K4
    rintro ⟨d6, g4⟩ at2
    refine ⟨small8 (by simp), fun l1 hl1 => ?_⟩
    have kk := d6.keep (o := .tup [.str "heat", .str "level", .int 9, .ref h1]) hl1
    have at3 : upd K4 l1 (.tup [.str "heat", .str "level", .int 9, .ref h1]) l1 = some (.tup [.str "heat", .str "level", .int 9, .ref h1]) := upd_same
    revert kk at3
    generalize upd K4 l1 (.tup [.str "heat", .str "level", .int 9, .ref h1]) = K5
    rintro ⟨d7, g5⟩ at3
    refine ⟨small8 (by simp), fun lf hlf => ?_⟩
    have d8 := d7.own (o := .lst [.ref l1]) hlf
    refine ⟨small8 (by simp), fun nm hnm => ?_⟩
    have d9 := d8.own (o := .lst [.str "net", .str "disk"]) hnm
    have sc5 := Same.lst g5 (Same.lst g4 (Same.lst g3 sc2))
    refine takenV (v := 1) rfl (by decide) (by decide) sc5 d9 fun H5 r hr0 hr1 dA => ?_
    refine ⟨_, rfl, _, _, rfl, l_of dA.at0, fun n2 hn2 => ?_⟩
    rw [cut65 hr0 hr1]
    have dB := dA.own (o := .lst ((nm65 r).map V.str)) hn2
    obtain ⟨dC, g6⟩ := dB.freeze
    have atN : upd K5 n2 (.lst ((nm65 r).map V.str)) n2 = some (.lst ((nm65 r).map V.str)) := upd_same
    have dC := dC.tail
    revert dC g6 atN
    generalize upd K5 n2 (.lst ((nm65 r).map V.str)) = K6
    generalize upd H5 n2 (.lst ((nm65 r).map V.str)) = H6
    intro g6 atN dC
    have hh0 : LineAt K K6 (.ref l1) (hd65 k0) := ⟨l1, h1, [.ref t1], rfl, t_of (g6 _ _ at3), t_of (g6 _ _ (g5 _ _ at2)), .cons ⟨t1, rfl, t_of (g6 _ _ (g5 _ _ (g4 _ _ at1)))⟩ .nil⟩
    have sc6 := Same.lst g6 sc5
    refine ⟨_, rfl, ⟨_, l_of (dC.ext _ _ atN)⟩, ?_⟩
    refine for_it (walk_list (xs := (nm65 r).map V.str)) (fun j σ H' => ∃ y6 K' lv ls, σ = [some (.ref a), some (.ref row), some (.int (0 + (i : Nat))), some (.int (1 + c0)), some (.int (1 + k0)), some (.ref lf), y6, y7, y8, y9, yA, yB, yC, yD, yE, yF] ∧ Same K6 K' ∧ Dr K' H' row a [(lf, .lst lv)] ∧ Paired (LineAt K K') lv (hd65 k0 :: ls) ∧ Paired Oth65 ls ((nm65 r).take j)) ⟨_, K6, [.ref l1], [], rfl, Same.refl _, dC, .cons hh0 .nil, .nil⟩ ?_ ?_ ?_
    · rintro j σ H' _ ⟨y6, K', lv, ls, rfl, g, d, _⟩
      exact l_of (d.ext _ _ (g _ _ atN))
    · rintro j v σ H1 H7 hj ⟨y6, K7, lv, ls, rfl, g7, d7, pl, po⟩ ⟨rfl, e2⟩
      obtain ⟨n, hn, rfl⟩ := strs_get e2
      have sc7 := Same.lst g7 sc6
      refine ⟨_, rfl, .inl ⟨rfl, _, l_of d7.at0⟩, ?_⟩
      refine ⟨_, rfl, ?_⟩
      refine takenV (v := 1) rfl (by decide) (by decide) sc7 d7 fun H8 q0 hq0 hq1 d8 => ?_
      refine ⟨_, _, rfl, rfl, ?_⟩
      refine takenV (v := 1) rfl (by decide) (by decide) sc7 d8 fun H9 u0 hu0 hu1 d9 => ?_
      refine ⟨_, _, rfl, rfl, small8 (by simp), fun t2 ht2 => ?_⟩
      have kk := d9.keep (o := .tup [.str "run", .int (1 + u0)]) ht2
      have at1 : upd K7 t2 (.tup [.str "run", .int (1 + u0)]) t2 = some (.tup [.str "run", .int (1 + u0)]) := upd_same
      revert kk at1
      generalize upd K7 t2 (.tup [.str "run", .int (1 + u0)]) = K8
      rintro ⟨dA, gA⟩ at1
      refine ⟨small8 (by simp), fun h2 hh2 => ?_⟩
      have kk := dA.keep (o := .tup [.ref t2]) hh2
      have at2 : upd K8 h2 (.tup [.ref t2]) h2 = some (.tup [.ref t2]) := upd_same
      revert kk at2
      generalize upd K8 h2 (.tup [.ref t2]) = K9
      rintro ⟨dB, gB⟩ at2
      refine ⟨small8 (by simp), fun l2 hl2 => ?_⟩
      have kk := dB.keep (o := .tup [.str n, .str "edge", .int (1 + q0), .ref h2]) hl2
      have at3 : upd K9 l2 (.tup [.str n, .str "edge", .int (1 + q0), .ref h2]) l2 = some (.tup [.str n, .str "edge", .int (1 + q0), .ref h2]) := upd_same
      revert kk at3
      generalize upd K9 l2 (.tup [.str n, .str "edge", .int (1 + q0), .ref h2]) = KA
      rintro ⟨dC, gC⟩ at3
      have hlv := pl.length
      have hpo := po.length
      have hnl := nm65_len r
      rw [List.length_take] at hpo
      refine ⟨_, lv, _, rfl, rfl, dC.at0, sml (m := 20) (by rw [hlv, List.length_cons]; omega) (by decide), ?_⟩
      have gg := Same.tr gA (Same.tr gB gC)
      refine ⟨_, KA, lv ++ [.ref l2], ls ++ [⟨n, false, 1 + q0, [.run (1 + u0)]⟩], rfl, Same.tr g7 gg, dC.put, ?_, ?_⟩
      · exact Paired.snoc (pl.mono fun _ _ z => LineAt.up gg z) ⟨l2, h2, [.ref t2], rfl, t_of at3, t_of (gC _ _ at2), .cons ⟨t2, rfl, t_of (gC _ _ (gB _ _ at1))⟩ .nil⟩
      · rw [take_snoc hn]
        exact Paired.snoc po ⟨rfl, rfl, by show 1 ≤ 1 + q0; omega, by show 1 + q0 ≤ 8; omega, 1 + u0, rfl, by omega, by omega⟩
    rintro σ H7 ⟨y6, K7, lv, ls, rfl, g7, d7, pl, po⟩
    rw [List.take_of_length_le (by rw [List.length_map]; exact Nat.le_refl _)] at po
    have sc7 := Same.lst g7 sc6
    refine ⟨_, rfl, _, _, rfl, .inl ⟨l_of d7.at0, fun la hla => ?_⟩⟩
    have kk := d7.keep (o := .tup lv) hla
    have at1 : upd K7 la (.tup lv) la = some (.tup lv) := upd_same
    revert kk at1
    generalize upd K7 la (.tup lv) = K8
    rintro ⟨d8, g8⟩ at1
    have LA : LinesAt K K8 la (hd65 k0 :: ls) := ⟨lv, t_of at1, pl.mono fun _ _ z => LineAt.up g8 z⟩
    have sc8 := Same.lst g8 sc7
    obtain ⟨i0, gg0, x0, hi0, hg0, sp0⟩ := d8
    intro su ds hsu hds hne
    have t1 := sp0.obj (o := .own su) (o' := .ins (aC "Setup" K) ds []) hsu hds hne
    have hwa : WorksAt K K8 (He.dflAt ("Setup", some "__init__") 0 K) [] := ⟨[], T.d_Setup K8, .nil⟩
    have P5 := ls65_ok (k0 := k0) hk0 hk1 po
    refine ⟨su, ds, la, _, hd65 k0 :: ls, [], K8, _, rfl, t1, LA, hwa, P5.1, wsok_nil, P5.2, fun K9 H9 S g9 sp9 sat eL eW ok => ⟨rfl, ?_⟩⟩
    obtain ⟨c, hc⟩ : ∃ n : Nat, 1 + c0 = (n : Int) := ⟨(1 + c0).toNat, by omega⟩
    rw [hc]
    refine ⟨_, rfl, fun hs dh hhs hdh hne2 => ?_⟩
    have t2 := sp9.obj (o := .own hs) (o' := .ins (aC "House" K) dh []) hhs hdh hne2
    have gS := sat
    refine ⟨hs, dh, su, S, c, _, _, [], [], K9, _, rfl, t2, sat, ok, by omega, by omega, ⟨[], T.kw_routes K9, .nil⟩, ⟨(fun r m => nomatch m), List.nodup_nil⟩, ⟨[], T.kw_storms K9, .nil⟩, ⟨(fun r m => nomatch m), List.nodup_nil⟩, fun KA HA X gA eh es er et oh => ⟨rfl, ?_⟩⟩
    subst eh
    subst es
    have hcm := calm65 hk0 ok eL po
    have dH0 : HDr K X ⟨S, c, rtOf c [], []⟩ KA HA (hs0 S c) row a [(lf, .lst lv)] := ⟨i0, gg0, x0, hi0, hg0, oh⟩
    have J0 := inv0 (F := ⟨S, c, rtOf c [], []⟩) hcm (by show 1 ≤ c; omega) (fun n => rfl) rfl
    generalize hF : (⟨S, c, rtOf c [], []⟩ : HFx) = F at *
    have eS : F.S = S := by rw [← hF]
    have ec : F.c = c := by rw [← hF]
    rw [eS, ec] at J0
    have hl0 : (hd65 k0) ∈ F.S.ls := by rw [eS, eL]; exact List.mem_cons_self
    have hm0 : ("heat" : Str) ∈ lnN F.S := List.mem_map_of_mem hl0
    have plA := pl.mono fun _ _ z => LineAt.up (Same.tr g8 (Same.tr g9 gA)) z
    refine ⟨30, rfl, by omega, by omega, ?_⟩
    have sc9 := Same.lst (Same.tr g9 gA) sc8
    have B0 : Bd65 F (hs0 S c) 0 := ⟨Nat.le_refl _, Nat.le_refl _, fun _ => Nat.le_refl _⟩
    refine for_it (walk_range (lo := 0) (n := (30 : Int).toNat)) (fun k σ H' => ∃ y9 yA yB yC yD yE yF K' h high, σ = [some (.ref a), some (.ref row), some (.int (0 + (i : Nat))), some (.int (c : Nat)), some (.int (1 + k0)), some (.ref lf), y6, some (.ref X.hs), some (.bl high), y9, yA, yB, yC, yD, yE, yF] ∧ Same KA K' ∧ HDr K X F K' H' h row a [(lf, .lst lv)] ∧ Inv65 F (hd65 k0) h high ∧ Bd65 F h k) ⟨_, _, _, _, _, _, _, KA, hs0 S c, false, rfl, Same.refl _, dH0, J0, B0⟩ (fun _ _ _ _ _ => trivial) ?_ ?_
    rotate_left
    · rintro σ H1 ⟨y9, yA, yB, yC, yD, yE, yF, K', h, high, rfl, g, d, J, B⟩
      exact ⟨_, _, _, _, _, _, _, _, _, _, _, _, _, _, K', rfl, Same.tr g2 (Same.tr g3 (Same.tr g4 (Same.tr g5 (Same.tr g6 (Same.tr g7 (Same.tr g8 (Same.tr g9 (Same.tr gA g)))))))), d.rowD⟩
    rintro k v σ H1 H2 hk ⟨y9, yA, yB, yC, yD, yE, yF, KB, h, high, rfl, gB, dB, J, B⟩ ⟨rfl, rfl⟩
    have scB := Same.lst gB sc9
    obtain ⟨N, ow, bk⟩ := dB.deed
    have ho := ow.obj
    refine ⟨_, rfl, X.hs, X.dh, _, rfl, ho, X, F, KB, h, _, rfl, ow, fun p H3 g3 hp hp1 => ?_⟩
    refine ⟨p, .int (h.bt "heat"), rfl, md_at hm0 ▸ DGet.k (k := .inr "heat") hp1, ?_⟩
    have ow3 := ow.grow g3
    have ho3 := ow3.obj
    refine ⟨_, rfl, X.hs, rfl, .inr ⟨_, _, ho3⟩, X, F, KB, h, _, hd65 k0, rfl, ow3, hl0, fun ra H4 gr hra hra1 => ?_⟩
    refine ⟨_, _, _, _, rfl, rfl, t_of hra1, rfl, rfl, ?_⟩
    have dB4 := bk KB H4 h _ (ow3.grow gr)
    clear ow ow3 bk ho ho3
    show gName 11 (V.bl (decide (optV (h.bo.ow "heat") = V.non))) _ _ _
    rw [own65]
    dsimp only [tSeq, tAsg, gName]
    refine (show ∀ D : Ends, (∀ H6 K6 h6 hi6 z12, Same KB K6 → HDr K X F K6 H6 h6 row a [(lf, .lst lv)] → Inv65 F (hd65 k0) h6 hi6 → Near65 h h6 1 → D.nx [some (.ref a), some (.ref row), some (.int (0 + (i : Nat))), some (.int (c : Nat)), some (.int (1 + k0)), some (.ref lf), y6, some (.ref X.hs), some (.bl hi6), some (.int (0 + (k : Nat))), some (.int (h.bt "heat")), some (.bl (h.bo.ow "heat").isNone), z12, yD, yE, yF] H6) → tIfS (tTest _) _ _ D _ H4 from fun D hD => ?_) _ (fun H6 K6 h6 hi6 z12 g6' d6' J6 N6 => ?_)
    · refine takenH (v := 1) rfl (by decide) (by decide) scB dB4 fun H5 r6 hr60 hr61 dB5 => ?_
      refine ⟨rfl, _, rfl, ?_⟩
      by_cases e : V.int r6 = V.int 0
      · rw [decide_eq_true e]
        refine iteT ?_
        obtain ⟨N5, ow5, bk5⟩ := dB5.deed
        have ho5 := ow5.obj
        have hru := J.ru
        cases high with
        | false =>
          refine ⟨_, rfl, false, rfl, _, rfl, true, rfl, iteT ?_⟩
          refine ⟨_, rfl, X.hs, X.dh, _, rfl, ho5, rfl, X, F, KB, h, _, hd65 k0, rfl, ow5, hl0, by have := B.rg; omega, fun K6 H6 g6 o6 => ?_⟩
          rw [show h.bo.rung (hd65 k0).name = false from hru]
          refine ⟨rfl, ?_⟩
          refine ⟨_, rfl, true, congrArg V.bl (decide_eq_true rfl), iteF ?_⟩
          obtain ⟨M9, ob9, _⟩ := ow5.board
          exact hD H6 K6 _ true _ g6 (bk5 _ _ _ _ o6) (ring65 (by rw [eS]; exact hcm) ob9.bk J) (near_ring _)
        | true =>
          refine ⟨_, rfl, true, rfl, _, rfl, false, rfl, iteF ?_⟩
          refine ⟨_, rfl, X.hs, X.dh, _, rfl, ho5, rfl, X, F, KB, h, _, hd65 k0, rfl, ow5, hl0, rfl, fun H6 o6 => ?_⟩
          rw [show h.bo.rung (hd65 k0).name = true from hru]
          refine ⟨_, rfl, true, rfl, iteF ?_⟩
          exact hD H6 KB _ false _ (Same.refl _) (bk5 _ _ _ _ o6) (quiet65 (by rw [eS]; exact hcm) J) (near_quiet _)
      · rw [decide_eq_false e]
        exact iteF (hD H5 KB h high _ (Same.refl _) dB5 J (Near65.refl h 1))
    dsimp only [tSeq, tAsg, gName]
    have at6 := d6'.at0
    have sc6' := Same.lst g6' scB
    refine (show ∀ D : Ends, (∀ H7 K7 h7, Same K6 K7 → HDr K X F K7 H7 h7 row a [(lf, .lst lv)] → Inv65 F (hd65 k0) h7 hi6 → Near65 h6 h7 1 → D.nx [some (.ref a), some (.ref row), some (.int (0 + (i : Nat))), some (.int (c : Nat)), some (.int (1 + k0)), some (.ref lf), y6, some (.ref X.hs), some (.bl hi6), some (.int (0 + (k : Nat))), some (.int (h.bt "heat")), some (.bl (h.bo.ow "heat").isNone), z12, yD, yE, yF] H7) → tIfS (tAnd _ _) _ _ D _ H6 from fun D hD => ?_) _ (fun H7 K7 h7 g7' d7' J7 N7 => ?_)
    · refine ⟨_, rfl, _, _, rfl, .inl (l_of at6), _, _, rfl, rfl, decide (1 < ((lv.length : Nat) : Int)), rfl, ?_⟩
      by_cases e : 1 < ((lv.length : Nat) : Int)
      · rw [decide_eq_true e]
        refine iteT ?_
        refine takenH (v := 1) rfl (by decide) (by decide) sc6' d6' fun H5 r3 hr30 hr31 dB5 => ?_
        refine ⟨rfl, _, rfl, ?_⟩
        by_cases e2 : V.int r3 = V.int 0
        · rw [decide_eq_true e2]
          refine iteT ?_
          have hpl := plA.length
          obtain ⟨v1, hv1⟩ : ∃ v, lv[1]? = some v := ⟨_, List.getElem?_eq_getElem (by omega)⟩
          obtain ⟨l1', hl1', hL⟩ := pget plA hv1
          obtain ⟨b1, hh1, hs1, rfl, hb1, _⟩ := LineAt.up (Same.tr gB (Same.tr g6' dB5.ext)) hL
          have at5 := dB5.at0
          obtain ⟨N5, ow5, bk5⟩ := dB5.deed
          have ho5 := ow5.obj
          have hlm : l1' ∈ F.S.ls := by rw [eS, eL]; exact List.mem_of_getElem? hl1'
          have hne : l1'.name ≠ (hd65 k0).name := fun q => by
            have nd := ok.ok.nd
            rw [eL] at nd
            have := nm_inj nd (List.mem_of_getElem? hl1') List.mem_cons_self q
            rw [List.map_cons] at nd
            refine (List.nodup_cons.mp nd).1 ?_
            rw [← q]
            rw [List.getElem?_cons_succ] at hl1'
            exact List.mem_map_of_mem (List.mem_of_getElem? hl1')
          refine ⟨_, rfl, X.hs, X.dh, _, rfl, ho5, rfl, ?_⟩
          refine ⟨_, rfl, lf, lv, _, _, rfl, rfl, l_of at5, (show atI lv 1 = some (V.ref b1) from atIn (n := 1) hv1), _, _, _, _, rfl, rfl, hb1, rfl, ?_⟩
          refine ⟨X, F, K6, h6, _, l1', rfl, ow5, hlm, by have := B.rg; have := N6.rg; omega, fun K8 H8 g8' o8 => ?_⟩
          exact hD H8 K8 _ g8' (bk5 _ _ _ _ o8) (other65 J6 hne) (near_ring _)
        · rw [decide_eq_false e2]
          exact iteF (hD H5 K6 h6 (Same.refl _) dB5 J6 (Near65.refl h6 1))
      · rw [decide_eq_false e]
        exact iteF (iteF (hD H6 K6 h6 (Same.refl _) d6' J6 (Near65.refl h6 1)))
    have N7 := N6.tr N7
    obtain ⟨N9, ow9, bk9⟩ := d7'.deed
    have ho9 := ow9.obj
    have gp9 := J7.pg
    have sm9 := sum65 J7
    have T65 := tick65 (by rw [eS]; exact hcm) J7
    have TL := tick_le ow9.ok gp9 ow9.pl ow9.sl ow9.fx.c6 (run65 J7)
    refine ⟨_, rfl, X.hs, X.dh, _, rfl, ho9, rfl, X, F, K7, h7, _, rfl, ow9, run65 J7, gp9, by omega, by have := B.rg; have := N7.rg; omega, by rw [N7.ev]; have := B.ev; omega, fun m => by rw [N7.wd]; have := B.cn m; omega, fun K8 H8 ea evs g8' o8 hev => ?_⟩
    obtain ⟨o8, g9'⟩ := o8.freeze
    have atE : upd K8 ea (.lst evs) ea = some (.lst evs) := upd_same
    revert o8 g9' atE
    generalize upd K8 ea (.lst evs) = K9
    intro o8 g9' atE
    have hev := hev.mono fun _ _ z => HEvAt.up g9' z
    obtain ⟨J8, bt8, lx, elx, ecx, efx⟩ := T65.imp_right fun z => (⟨z.bt, z.ev⟩ : _ ∧ _)
    have d8 := bk9 K9 H8 _ _ o8
    have ho8 := o8.obj
    refine ⟨_, rfl, X.hs, X.dh, _, rfl, ho8, X, F, K9, _, _, rfl, o8, fun p8 H9 g3' hp8 hp81 => ?_⟩
    refine ⟨p8, .int ((tickH F h7).bt "heat"), rfl, md_at hm0 ▸ DGet.k (k := .inr "heat") hp81, ?_⟩
    have d8 := d8.grow g3'
    clear ow9 o8
    refine ⟨_, rfl, _, _, rfl, rfl, ?_⟩
    have ekk : (tickH F h7).bt "heat" - h.bt "heat" = ((if (hi6 && (h7.bo.ow (hd65 k0).name).isNone) = true then 1 else 0 : Nat) : Int) := by
      have z : (tickH F h7).bt "heat" = h7.bt "heat" + ((if (hi6 && (h7.bo.ow (hd65 k0).name).isNone) = true then 1 else 0 : Nat) : Int) := bt8
      rw [N7.bt] at z
      omega
    have eow : (h.bo.ow "heat").isNone = (h7.bo.ow (hd65 k0).name).isNone := by rw [N7.ow]; rfl
    show gName 14 (V.int ((tickH F h7).bt "heat" - h.bt "heat")) _ _ _
    rw [ekk, eow]
    rw [eow] at *
    generalize (h7.bo.ow (hd65 k0).name).isNone = fr at *
    dsimp only [tSeq, tAsg, gName]
    refine (show ∀ D : Ends, D.nx [some (.ref a), some (.ref row), some (.int (0 + (i : Nat))), some (.int (c : Nat)), some (.int (1 + k0)), some (.ref lf), y6, some (.ref X.hs), some (.bl hi6), some (.int (0 + (k : Nat))), some (.int (h.bt "heat")), some (.bl fr), z12, some (.ref ea), some (.int ((if (hi6 && fr) = true then 1 else 0 : Nat) : Int)), yF] H9 → tIfS (tTest _) _ _ D _ H9 from fun D hD => ?_) _ ?_
    · cases hi6 with
      | false => exact ⟨_, rfl, _, rfl, false, rfl, .inr ⟨false, rfl, rfl, false, by cases fr <;> rfl, iteF hD⟩⟩
      | true =>
        cases fr with
        | false => exact ⟨_, rfl, _, rfl, true, rfl, _, rfl, .inr ⟨false, rfl, rfl, false, rfl, iteF hD⟩⟩
        | true => exact ⟨_, rfl, _, rfl, true, rfl, _, rfl, .inr ⟨true, rfl, rfl, false, rfl, iteF hD⟩⟩
    rw [elx, List.drop_left] at hev
    have atEH := d8.ext _ _ atE
    refine ⟨_, rfl, _, rfl, ⟨_, l_of atEH⟩, fun D hD => ?_⟩
    refine lc_it (walk_list (xs := evs)) (fun j H' => ∃ K' acc, Same K9 K' ∧ HDr K X F K' H' (tickH F h7) row a [(D, .lst acc), (lf, .lst lv)] ∧ Paired (SSAt K K') acc ((lx.take j).map hdE)) ⟨K9, [], Same.refl _, d8.new hD, .nil⟩ ?_ ?_ ?_
    · rintro j H' _ ⟨K', acc, g, d, _⟩
      exact l_of (d.ext _ _ (g _ _ atE))
    · rintro j v H5 H6' hj ⟨K5', acc, g5', d5', pa⟩ ⟨rfl, e2⟩
      obtain ⟨ev, hevj, t5, rfl, ht5⟩ := pget hev e2
      have ht5 := Same.tup (Same.tr g5' d5'.ext) ht5
      have fe := efx ev (List.mem_of_getElem? hevj)
      cases ev with
      | held _ _ => cases fe
      | off _ _ => cases fe
      | four w' t' n' p' =>
        refine ⟨rfl, _, rfl, _, rfl, _, _, rfl, ht5, (by show ¬ (HT.sIx 4 0 none = 0 ∧ HT.sIx 4 4 (some 1) = 4); decide), fun p1 hp1 => ?_⟩
        rw [show cutV (HEv.four w' t' n' p').vals none (some 1) = [V.str w'] from rfl]
        have dP1 := d5'.drop (o := .tup [.str w']) hp1
        have g1' : Same H6' (upd H6' p1 (.tup [.str w'])) := same_new (Same.refl _) hp1
        have hp1' : upd H6' p1 (.tup [.str w']) p1 = some (.tup [.str w']) := upd_same
        refine ⟨_, rfl, _, rfl, _, rfl, _, _, rfl, Same.tup g1' ht5, (by show ¬ (HT.sIx 4 0 (some 2) = 0 ∧ HT.sIx 4 4 (some 3) = 4); decide), fun p2 hp2 => ?_⟩
        rw [show cutV (HEv.four w' t' n' p').vals (some 2) (some 3) = [V.str n'] from rfl]
        have dP2 := dP1.drop (o := .tup [.str n']) hp2
        have g2' : Same (upd H6' p1 (.tup [.str w'])) (upd (upd H6' p1 (.tup [.str w'])) p2 (.tup [.str n'])) := same_new (Same.refl _) hp2
        refine ⟨p1, p2, [.str w'], [.str n'], rfl, rfl, t_of (g2' _ _ hp1'), t_of upd_same, small8 (by show 2 ≤ 8; decide), (fun q => nomatch q), (fun _ q => nomatch q), fun _ _ p3 hp3 => ?_⟩
        rw [show ([V.str w'] ++ [V.str n']) = [V.str w', V.str n'] from rfl]
        obtain ⟨dP3, g3p⟩ := dP2.keep (o := .tup [.str w', .str n']) hp3
        have ap := pa.length
        rw [List.length_map, List.length_take] at ap
        refine ⟨_, dP3.at0, ?_, _, acc ++ [.ref p3], Same.tr g5' g3p, dP3.put, ?_⟩
        · have := hev.length
          have := TL.ev
          rw [elx, List.length_append, sm9] at this
          exact sm6 (by omega)
        · rw [take_snoc hevj, List.map_append]
          exact Paired.snoc (pa.mono fun _ _ z => SSAt.up g3p z) ⟨p3, rfl, t_of upd_same⟩
    rintro H5 ⟨K5', acc, g5', d5', pa⟩
    have hel := hev.length
    rw [List.take_of_length_le (by omega)] at pa
    have d5' := d5'
    have atD := d5'.at0
    refine ⟨.inl ⟨rfl, _, l_of atD⟩, ?_⟩
    refine ⟨small8 (by simp), fun q1 hq1 => ?_⟩
    have gq : Same H5 (upd H5 q1 (.tup [.str "begin", .str "heat"])) := same_new (Same.refl _) hq1
    refine ⟨D, acc, lx.map hdE, _, ("begin", "heat"), rfl, rfl, l_of (gq _ _ atD), pa.mono fun _ _ z => SSAt.up (Same.tr d5'.ext gq) z, ⟨q1, rfl, t_of upd_same⟩, ?_⟩
    rw [show (lx.map hdE).countP (fun z => decide (z = (("begin" : Str), ("heat" : Str)))) = _ from (cnt65 (hd := hd65 k0) efx).trans ecx]
    refine ⟨_, rfl, rfl, false, by rw [decide_eq_true rfl]; rfl, iteF ?_⟩
    have dZ := (d5'.tail).grow gq
    have gZ := Same.tr gB (Same.tr g6' (Same.tr g7' (Same.tr g8' (Same.tr g9' g5'))))
    refine ⟨_, _, _, _, _, _, _, K5', _, hi6, rfl, gZ, dZ, J8, ⟨?_, ?_, fun m => ?_⟩⟩
    · have := TL.rg
      have := N7.rg
      have := B.rg
      omega
    · have := TL.ev
      rw [N7.ev, sm9] at this
      have := B.ev
      omega
    · have := TL.cn m
      rw [N7.wd] at this
      have := B.cn m
      omega
end
end Cb

namespace Cb
open PySem PySem.Spec PyProof.Rows L2
theorem facts {P : Program} {w : World} {K : PySem.W.Frag} {h : Heap} {mg : Str → Option Value} {f : Addr} (hP : ProgOk P) (hF : pF P = fileP) (X : K.In h) (G : h.Ns mainGlobals mg) (hfa : mg ("law" : Str) = some (.ref f)) (c : SaysM exT fn tsM w K) :
    ∃ fd : FuncData, (∀ (s : Shared) (v : Value), BindsTo s fd ⟨[v], []⟩ [("_law_script", v)]) ∧ ∀ base : Heap, K.In base → base.Ns mainGlobals mg → FnOk P w K mg base C8.CX0 20 f fd ["_law_script"] (sp_law K) := by
  have T := txt_of X G (ex_of c.exok)
  obtain ⟨es, nn, D⟩ := c.tab 0
  obtain ⟨_, F_is_integer⟩ := c.def_ 0 (d := D_is_integer) rfl
  obtain ⟨_, F_check_number⟩ := c.def_ 1 (d := D_check_number) rfl
  obtain ⟨_, F_check_flag⟩ := c.def_ 25 (d := D_check_flag) rfl
  obtain ⟨_, F_put_changed⟩ := c.def_ 24 (d := D_put_changed) rfl
  obtain ⟨_, F_Setup_contains⟩ := c.def_ 18 (d := D_Setup_contains) rfl
  obtain ⟨_, F_Setup_getitem⟩ := c.def_ 19 (d := D_Setup_getitem) rfl
  obtain ⟨_, F_Setup_order⟩ := c.def_ 22 (d := D_Setup_order) rfl
  obtain ⟨_, F_Setup_works⟩ := c.def_ 21 (d := D_Setup_works) rfl
  obtain ⟨_, F_Board_check_line⟩ := c.def_ 27 (d := D_Board_check_line) rfl
  obtain ⟨_, F_Board_is_edge⟩ := c.def_ 28 (d := D_Board_is_edge) rfl
  obtain ⟨_, F_Board_ring⟩ := c.def_ 29 (d := D_Board_ring) rfl
  obtain ⟨_, F_Board_quiet⟩ := c.def_ 30 (d := D_Board_quiet) rfl
  obtain ⟨_, F_Board_mask⟩ := c.def_ 31 (d := D_Board_mask) rfl
  obtain ⟨_, F_Board_unmask⟩ := c.def_ 32 (d := D_Board_unmask) rfl
  obtain ⟨_, F_Board_set_flag⟩ := c.def_ 33 (d := D_Board_set_flag) rfl
  obtain ⟨_, F_Board_clear_flag⟩ := c.def_ 34 (d := D_Board_clear_flag) rfl
  obtain ⟨_, F_Board_begin⟩ := c.def_ 36 (d := D_Board_begin) rfl
  obtain ⟨_, F_Board_end⟩ := c.def_ 37 (d := D_Board_end) rfl
  obtain ⟨_, F_Board_is_up⟩ := c.def_ 38 (d := D_Board_is_up) rfl
  obtain ⟨_, F_Board_is_enabled⟩ := c.def_ 39 (d := D_Board_is_enabled) rfl
  obtain ⟨_, F_Board_is_high⟩ := c.def_ 40 (d := D_Board_is_high) rfl
  obtain ⟨_, F_Board_waits⟩ := c.def_ 41 (d := D_Board_waits) rfl
  obtain ⟨_, F_HouseBoard_note_ring⟩ := c.def_ 47 (d := D_HouseBoard_note_ring) rfl
  obtain ⟨_, F_HouseBoard_end⟩ := c.sup_ 50 (d := D_HouseBoard_end) rfl
  rw [← hF] at F_HouseBoard_end
  obtain ⟨_, F_HouseBoard_quiet⟩ := c.sup_ 48 (d := D_HouseBoard_quiet) rfl
  rw [← hF] at F_HouseBoard_quiet
  obtain ⟨_, F_HouseBoard_ring⟩ := c.sup_ 46 (d := D_HouseBoard_ring) rfl
  rw [← hF] at F_HouseBoard_ring
  obtain ⟨_, F_HouseBoard_begin⟩ := c.sup_ 49 (d := D_HouseBoard_begin) rfl
  rw [← hF] at F_HouseBoard_begin
  obtain ⟨_, F_Board_act⟩ := c.def_ 35 (d := D_Board_act) rfl
  obtain ⟨_, F_Board_waiting_lines⟩ := c.def_ 42 (d := D_Board_waiting_lines) rfl
  obtain ⟨_, F_Board_ready_lines⟩ := c.def_ 43 (d := D_Board_ready_lines) rfl
  obtain ⟨_, F_Board_raised_flags⟩ := c.def_ 44 (d := D_Board_raised_flags) rfl
  obtain ⟨_, F_HouseBoard_lines_on⟩ := c.def_ 56 (d := D_HouseBoard_lines_on) rfl
  obtain ⟨_, F_HouseBoard_ready_on⟩ := c.def_ 57 (d := D_HouseBoard_ready_on) rfl
  obtain ⟨_, F_HouseBoard_unplaced_lines⟩ := c.def_ 58 (d := D_HouseBoard_unplaced_lines) rfl
  obtain ⟨_, F_HouseBoard_load_of⟩ := c.def_ 59 (d := D_HouseBoard_load_of) rfl
  obtain ⟨_, F_HouseBoard_tick_number⟩ := c.def_ 53 (d := D_HouseBoard_tick_number) rfl
  obtain ⟨_, F_HouseBoard_place_of⟩ := c.def_ 54 (d := D_HouseBoard_place_of) rfl
  obtain ⟨_, F_HouseBoard_owner_of⟩ := c.def_ 55 (d := D_HouseBoard_owner_of) rfl
  obtain ⟨_, F_HouseBoard_put_on⟩ := c.def_ 51 (d := D_HouseBoard_put_on) rfl
  obtain ⟨_, F_HouseBoard_pass_tick⟩ := c.def_ 52 (d := D_HouseBoard_pass_tick) rfl
  obtain ⟨_, F_HouseBoard_ring_rows⟩ := c.def_ 60 (d := D_HouseBoard_ring_rows) rfl
  obtain ⟨_, F_HouseBoard_ring_fate⟩ := c.def_ 61 (d := D_HouseBoard_ring_fate) rfl
  obtain ⟨_, F_Board_init⟩ := c.def_ 26 (d := D_Board_init) rfl
  obtain ⟨_, F_HouseBoard_init⟩ := c.sup_ 45 (d := D_HouseBoard_init) rfl
  rw [← hF] at F_HouseBoard_init
  obtain ⟨_, F_WorkQueue_rows⟩ := c.def_ 64 (d := D_WorkQueue_rows) rfl
  obtain ⟨_, F_WorkQueue_is_empty⟩ := c.def_ 65 (d := D_WorkQueue_is_empty) rfl
  obtain ⟨_, F_WorkQueue_drop_rows⟩ := c.def_ 67 (d := D_WorkQueue_drop_rows) rfl
  obtain ⟨_, F_WorkQueue_init⟩ := c.def_ 63 (d := D_WorkQueue_init) rfl
  obtain ⟨_, F_WorkQueue_put⟩ := c.def_ 66 (d := D_WorkQueue_put) rfl
  obtain ⟨_, F_WorkQueue_spend⟩ := c.def_ 68 (d := D_WorkQueue_spend) rfl
  obtain ⟨_, F_Processor_lets_by⟩ := c.def_ 76 (d := D_Processor_lets_by) rfl
  obtain ⟨_, F_Processor_present_step⟩ := c.def_ 77 (d := D_Processor_present_step) rfl
  obtain ⟨_, F_Processor_passes_flag⟩ := c.def_ 78 (d := D_Processor_passes_flag) rfl
  obtain ⟨_, F_Processor_takes_no_tick⟩ := c.def_ 79 (d := D_Processor_takes_no_tick) rfl
  obtain ⟨_, F_Processor_act⟩ := c.def_ 80 (d := D_Processor_act) rfl
  obtain ⟨_, F_Processor_go_through⟩ := c.def_ 81 (d := D_Processor_go_through) rfl
  obtain ⟨_, F_Processor_spend_beside_calls⟩ := c.def_ 83 (d := D_Processor_spend_beside_calls) rfl
  obtain ⟨_, F_Processor_spend⟩ := c.def_ 82 (d := D_Processor_spend) rfl
  obtain ⟨_, F_Processor_go_on⟩ := c.def_ 71 (d := D_Processor_go_on) rfl
  obtain ⟨_, F_Processor_take⟩ := c.def_ 70 (d := D_Processor_take) rfl
  obtain ⟨_, F_Processor_bar_now⟩ := c.def_ 72 (d := D_Processor_bar_now) rfl
  obtain ⟨_, F_Processor_work_rows⟩ := c.def_ 74 (d := D_Processor_work_rows) rfl
  obtain ⟨_, F_Processor_call_rows⟩ := c.def_ 73 (d := D_Processor_call_rows) rfl
  obtain ⟨_, F_Processor_init⟩ := c.def_ 69 (d := D_Processor_init) rfl
  obtain ⟨_, F_Processor_hand_over_works⟩ := c.def_ 75 (d := D_Processor_hand_over_works) rfl
  obtain ⟨_, F_Router_turned⟩ := c.def_ 15 (d := D_Router_turned) rfl
  obtain ⟨_, F_Router_choose⟩ := c.def_ 14 (d := D_Router_choose) rfl
  obtain ⟨_, F_Router_init⟩ := c.def_ 13 (d := D_Router_init) rfl
  obtain ⟨_, F_StormWatch_held_until⟩ := c.def_ 88 (d := D_StormWatch_held_until) rfl
  obtain ⟨_, F_StormWatch_still_counted⟩ := c.def_ 89 (d := D_StormWatch_still_counted) rfl
  obtain ⟨_, F_StormWatch_note_begin⟩ := c.def_ 87 (d := D_StormWatch_note_begin) rfl
  obtain ⟨_, F_StormWatch_init⟩ := c.def_ 86 (d := D_StormWatch_init) rfl
  obtain ⟨_, F_is_letters⟩ := c.def_ 2 (d := D_is_letters) rfl
  obtain ⟨_, F_is_name⟩ := c.def_ 3 (d := D_is_name) rfl
  obtain ⟨_, F_is_line⟩ := c.def_ 4 (d := D_is_line) rfl
  obtain ⟨_, F_is_work⟩ := c.def_ 5 (d := D_is_work) rfl
  obtain ⟨_, F_is_step⟩ := c.def_ 6 (d := D_is_step) rfl
  obtain ⟨_, F_spoilt_named⟩ := c.def_ 7 (d := D_spoilt_named) rfl
  obtain ⟨_, F_spoilt_line⟩ := c.def_ 8 (d := D_spoilt_line) rfl
  obtain ⟨_, F_spoilt_work⟩ := c.def_ 9 (d := D_spoilt_work) rfl
  obtain ⟨_, F_spoilt_handler⟩ := c.def_ 10 (d := D_spoilt_handler) rfl
  obtain ⟨_, F_check_setup⟩ := c.def_ 23 (d := D_check_setup) rfl
  obtain ⟨_, F_Setup_init⟩ := c.def_ 16 (d := D_Setup_init) rfl
  obtain ⟨_, F_Setup_len⟩ := c.def_ 17 (d := D_Setup_len) rfl
  obtain ⟨_, F_is_route⟩ := c.def_ 11 (d := D_is_route) rfl
  obtain ⟨_, F_is_storm⟩ := c.def_ 84 (d := D_is_storm) rfl
  obtain ⟨_, F_spoilt_route⟩ := c.def_ 12 (d := D_spoilt_route) rfl
  obtain ⟨_, F_spoilt_storm⟩ := c.def_ 85 (d := D_spoilt_storm) rfl
  obtain ⟨_, F_check_house⟩ := c.def_ 121 (d := D_check_house) rfl
  obtain ⟨_, F_House_running⟩ := c.def_ 114 (d := D_House_running) rfl
  obtain ⟨_, F_House_check_line⟩ := c.def_ 112 (d := D_House_check_line) rfl
  obtain ⟨_, F_House_check_processor⟩ := c.def_ 113 (d := D_House_check_processor) rfl
  obtain ⟨_, F_House_line_row⟩ := c.def_ 115 (d := D_House_line_row) rfl
  obtain ⟨_, F_House_ring⟩ := c.def_ 97 (d := D_House_ring) rfl
  obtain ⟨_, F_House_quiet⟩ := c.def_ 98 (d := D_House_quiet) rfl
  obtain ⟨_, F_House_mask⟩ := c.def_ 99 (d := D_House_mask) rfl
  obtain ⟨_, F_House_unmask⟩ := c.def_ 100 (d := D_House_unmask) rfl
  obtain ⟨_, F_House_set_flag⟩ := c.def_ 101 (d := D_House_set_flag) rfl
  obtain ⟨_, F_House_clear_flag⟩ := c.def_ 102 (d := D_House_clear_flag) rfl
  obtain ⟨_, F_House_call⟩ := c.def_ 95 (d := D_House_call) rfl
  obtain ⟨_, F_House_len⟩ := c.def_ 91 (d := D_House_len) rfl
  obtain ⟨_, F_House_now⟩ := c.def_ 109 (d := D_House_now) rfl
  obtain ⟨_, F_House_rings⟩ := c.def_ 111 (d := D_House_rings) rfl
  obtain ⟨_, F_House_begin_counts⟩ := c.def_ 110 (d := D_House_begin_counts) rfl
  obtain ⟨_, F_House_setup⟩ := c.def_ 106 (d := D_House_setup) rfl
  obtain ⟨_, F_House_routes⟩ := c.def_ 107 (d := D_House_routes) rfl
  obtain ⟨_, F_House_storms⟩ := c.def_ 108 (d := D_House_storms) rfl
  obtain ⟨_, F_House_place⟩ := c.def_ 116 (d := D_House_place) rfl
  obtain ⟨_, F_House_place_lines⟩ := c.def_ 117 (d := D_House_place_lines) rfl
  obtain ⟨_, F_House_note_events⟩ := c.def_ 118 (d := D_House_note_events) rfl
  obtain ⟨_, F_House_move_works⟩ := c.def_ 120 (d := D_House_move_works) rfl
  obtain ⟨_, F_House_let_go_off⟩ := c.def_ 119 (d := D_House_let_go_off) rfl
  obtain ⟨_, F_House_tick⟩ := c.def_ 103 (d := D_House_tick) rfl
  obtain ⟨_, F_Setup_lines⟩ := c.def_ 20 (d := D_Setup_lines) rfl
  obtain ⟨_, F_House_init⟩ := c.def_ 90 (d := D_House_init) rfl
  obtain ⟨_, F_House_fate⟩ := c.def_ 105 (d := D_House_fate) rfl
  obtain ⟨_, F_House_getitem⟩ := c.def_ 93 (d := D_House_getitem) rfl
  obtain ⟨_, F_law_taken⟩ := c.def_ 122 (d := D_law_taken) rfl
  obtain ⟨_, F_law⟩ := c.def_ 123 (d := D_law) rfl
  have e := hfa.symm.trans T.f_law
  cases e
  have b := FunD.bindsA (ps := ["_law_script"]) F_law fun _ _ _ _ _ _ us hl => match us, hl with | [_], _ => rfl
  refine ⟨_, fun s v => b s [v] rfl, fun base _ _ => ?_⟩
  have c_is_integer := ok_is_integer (P := P) (w := w) (base := base) T F_is_integer 
  have c_check_number := ok_check_number (P := P) (w := w) (base := base) T F_check_number c_is_integer
  have c_check_flag := ok_check_flag (P := P) (w := w) (base := base) T F_check_flag c_is_integer
  have c_put_changed := ok_put_changed (P := P) (w := w) (base := base) T F_put_changed 
  have c_Setup_contains := ok_Setup_contains (P := P) (w := w) (base := base) T F_Setup_contains 
  have c_Setup_getitem := ok_Setup_getitem (P := P) (w := w) (base := base) T F_Setup_getitem c_Setup_contains
  have c_Setup_order := ok_Setup_order (P := P) (w := w) (base := base) T F_Setup_order 
  have c_Setup_works := ok_Setup_works (P := P) (w := w) (base := base) T F_Setup_works 
  have cP_put_changed := okP_put_changed (P := P) (w := w) (base := base) T F_put_changed 
  have c_Board_check_line := ok_Board_check_line (P := P) (w := w) (base := base) T F_Board_check_line c_Setup_contains
  have c_Board_is_edge := ok_Board_is_edge (P := P) (w := w) (base := base) T F_Board_is_edge c_Setup_getitem
  have c_Board_ring := ok_Board_ring (P := P) (w := w) (base := base) T F_Board_ring c_Board_check_line c_put_changed
  have c_Board_quiet := ok_Board_quiet (P := P) (w := w) (base := base) T F_Board_quiet c_Board_check_line c_Board_is_edge c_put_changed
  have c_Board_mask := ok_Board_mask (P := P) (w := w) (base := base) T F_Board_mask c_Board_check_line c_put_changed
  have c_Board_unmask := ok_Board_unmask (P := P) (w := w) (base := base) T F_Board_unmask c_Board_check_line c_put_changed
  have c_Board_set_flag := ok_Board_set_flag (P := P) (w := w) (base := base) T F_Board_set_flag c_check_flag cP_put_changed
  have c_Board_clear_flag := ok_Board_clear_flag (P := P) (w := w) (base := base) T F_Board_clear_flag c_check_flag cP_put_changed
  have c_Board_begin := ok_Board_begin (P := P) (w := w) (base := base) T F_Board_begin c_Board_is_edge
  have c_Board_end := ok_Board_end (P := P) (w := w) (base := base) T F_Board_end 
  have c_Board_is_up := ok_Board_is_up (P := P) (w := w) (base := base) T F_Board_is_up 
  have c_Board_is_enabled := ok_Board_is_enabled (P := P) (w := w) (base := base) T F_Board_is_enabled 
  have c_Board_is_high := ok_Board_is_high (P := P) (w := w) (base := base) T F_Board_is_high c_Board_is_edge
  have c_Board_waits := ok_Board_waits (P := P) (w := w) (base := base) T F_Board_waits c_Board_is_edge
  have c_HouseBoard_note_ring := ok_HouseBoard_note_ring (P := P) (w := w) (base := base) T F_HouseBoard_note_ring 
  have c_HouseBoard_end := ok_HouseBoard_end (P := P) (w := w) (base := base) T F_HouseBoard_end hP c_Board_end
  have c_HouseBoard_quiet := ok_HouseBoard_quiet (P := P) (w := w) (base := base) T F_HouseBoard_quiet hP c_Board_quiet
  have c_HouseBoard_ring := ok_HouseBoard_ring (P := P) (w := w) (base := base) T F_HouseBoard_ring hP c_Board_ring c_Board_is_edge c_HouseBoard_note_ring
  have c_HouseBoard_begin := ok_HouseBoard_begin (P := P) (w := w) (base := base) T F_HouseBoard_begin hP c_Board_begin
  have c_Board_act := ok_Board_act (P := P) (w := w) (base := base) T F_Board_act c_HouseBoard_ring c_HouseBoard_quiet c_Board_mask c_Board_unmask c_Board_set_flag c_Board_clear_flag
  have c_Board_waiting_lines := ok_Board_waiting_lines (P := P) (w := w) (base := base) T F_Board_waiting_lines c_Setup_order c_Board_waits
  have c_Board_ready_lines := ok_Board_ready_lines (P := P) (w := w) (base := base) T F_Board_ready_lines c_Board_waiting_lines c_Board_is_enabled
  have c_Board_raised_flags := ok_Board_raised_flags (P := P) (w := w) (base := base) T F_Board_raised_flags 
  have c_HouseBoard_lines_on := ok_HouseBoard_lines_on (P := P) (w := w) (base := base) T F_HouseBoard_lines_on c_Setup_order
  have c_HouseBoard_ready_on := ok_HouseBoard_ready_on (P := P) (w := w) (base := base) T F_HouseBoard_ready_on c_HouseBoard_lines_on c_Board_is_enabled
  have c_HouseBoard_unplaced_lines := ok_HouseBoard_unplaced_lines (P := P) (w := w) (base := base) T F_HouseBoard_unplaced_lines c_Board_ready_lines
  have c_HouseBoard_load_of := ok_HouseBoard_load_of (P := P) (w := w) (base := base) T F_HouseBoard_load_of c_Setup_order c_HouseBoard_lines_on
  have c_HouseBoard_tick_number := ok_HouseBoard_tick_number (P := P) (w := w) (base := base) T F_HouseBoard_tick_number 
  have c_HouseBoard_place_of := ok_HouseBoard_place_of (P := P) (w := w) (base := base) T F_HouseBoard_place_of 
  have c_HouseBoard_owner_of := ok_HouseBoard_owner_of (P := P) (w := w) (base := base) T F_HouseBoard_owner_of 
  have c_HouseBoard_put_on := ok_HouseBoard_put_on (P := P) (w := w) (base := base) T F_HouseBoard_put_on 
  have c_HouseBoard_pass_tick := ok_HouseBoard_pass_tick (P := P) (w := w) (base := base) T F_HouseBoard_pass_tick 
  have c_HouseBoard_ring_rows := ok_HouseBoard_ring_rows (P := P) (w := w) (base := base) T F_HouseBoard_ring_rows 
  have c_HouseBoard_ring_fate := ok_HouseBoard_ring_fate (P := P) (w := w) (base := base) T F_HouseBoard_ring_fate 
  have c_Board_init := ok_Board_init (P := P) (w := w) (base := base) T F_Board_init c_Setup_order
  have c_HouseBoard_init := ok_HouseBoard_init (P := P) (w := w) (base := base) T F_HouseBoard_init hP c_Board_init c_Setup_order
  have c_WorkQueue_rows := ok_WorkQueue_rows (P := P) (w := w) (base := base) T F_WorkQueue_rows 
  have c_WorkQueue_is_empty := ok_WorkQueue_is_empty (P := P) (w := w) (base := base) T F_WorkQueue_is_empty 
  have c_WorkQueue_drop_rows := ok_WorkQueue_drop_rows (P := P) (w := w) (base := base) T F_WorkQueue_drop_rows 
  have c_WorkQueue_init := ok_WorkQueue_init (P := P) (w := w) (base := base) T F_WorkQueue_init 
  have c_WorkQueue_put := ok_WorkQueue_put (P := P) (w := w) (base := base) T F_WorkQueue_put 
  have c_WorkQueue_put1 := ok_WorkQueue_put1 (P := P) (w := w) (base := base) T F_WorkQueue_put 
  have c_WorkQueue_spend := ok_WorkQueue_spend (P := P) (w := w) (base := base) T F_WorkQueue_spend 
  have c_Processor_lets_by := ok_Processor_lets_by (P := P) (w := w) (base := base) T F_Processor_lets_by c_Setup_getitem
  have c_Processor_present_step := ok_Processor_present_step (P := P) (w := w) (base := base) T F_Processor_present_step c_Setup_getitem
  have c_Processor_passes_flag := ok_Processor_passes_flag (P := P) (w := w) (base := base) T F_Processor_passes_flag c_Processor_present_step c_Board_is_up
  have c_Processor_takes_no_tick := ok_Processor_takes_no_tick (P := P) (w := w) (base := base) T F_Processor_takes_no_tick c_Board_is_up
  have c_Processor_act := ok_Processor_act (P := P) (w := w) (base := base) T F_Processor_act c_WorkQueue_put1 c_Board_act
  have c_Processor_go_through := ok_Processor_go_through (P := P) (w := w) (base := base) T F_Processor_go_through c_Setup_getitem c_Processor_takes_no_tick c_Processor_act c_HouseBoard_end
  have c_Processor_spend_beside_calls := ok_Processor_spend_beside_calls (P := P) (w := w) (base := base) T F_Processor_spend_beside_calls c_WorkQueue_is_empty c_WorkQueue_spend
  have c_Processor_spend := ok_Processor_spend (P := P) (w := w) (base := base) T F_Processor_spend c_Processor_spend_beside_calls c_Processor_present_step c_Processor_go_through
  have c_Processor_go_on := ok_Processor_go_on (P := P) (w := w) (base := base) T F_Processor_go_on c_Processor_passes_flag c_Processor_go_through c_Processor_spend
  have c_Processor_take := ok_Processor_take (P := P) (w := w) (base := base) T F_Processor_take c_Processor_lets_by c_HouseBoard_begin c_Processor_go_through
  have c_Processor_bar_now := ok_Processor_bar_now (P := P) (w := w) (base := base) T F_Processor_bar_now 
  have c_Processor_work_rows := ok_Processor_work_rows (P := P) (w := w) (base := base) T F_Processor_work_rows c_WorkQueue_rows
  have c_Processor_call_rows := ok_Processor_call_rows (P := P) (w := w) (base := base) T F_Processor_call_rows 
  have c_Processor_init := ok_Processor_init (P := P) (w := w) (base := base) T F_Processor_init c_Setup_works c_WorkQueue_init
  have c_Processor_hand_over_works := ok_Processor_hand_over_works (P := P) (w := w) (base := base) T F_Processor_hand_over_works c_WorkQueue_rows c_WorkQueue_drop_rows c_WorkQueue_put
  have c_Router_turned := ok_Router_turned (P := P) (w := w) (base := base) T F_Router_turned 
  have c_Router_choose := ok_Router_choose (P := P) (w := w) (base := base) T F_Router_choose c_Router_turned c_HouseBoard_load_of
  have c_Router_init := ok_Router_init (P := P) (w := w) (base := base) T F_Router_init c_Setup_order
  have c_StormWatch_held_until := ok_StormWatch_held_until (P := P) (w := w) (base := base) T F_StormWatch_held_until 
  have c_StormWatch_still_counted := ok_StormWatch_still_counted (P := P) (w := w) (base := base) T F_StormWatch_still_counted 
  have c_StormWatch_note_begin := ok_StormWatch_note_begin (P := P) (w := w) (base := base) T F_StormWatch_note_begin c_StormWatch_still_counted
  have c_StormWatch_init := ok_StormWatch_init (P := P) (w := w) (base := base) T F_StormWatch_init 
  have c_is_letters := ok_is_letters (P := P) (w := w) (base := base) T F_is_letters 
  have c_is_name := ok_is_name (P := P) (w := w) (base := base) T F_is_name c_is_letters
  have c_is_line := ok_is_line (P := P) (w := w) (base := base) T F_is_line c_is_integer c_is_name
  have c_is_work := ok_is_work (P := P) (w := w) (base := base) T F_is_work c_is_integer c_is_name
  have c_is_step := ok_is_step (P := P) (w := w) (base := base) T F_is_step c_is_integer D
  have c_spoilt_named := ok_spoilt_named (P := P) (w := w) (base := base) T F_spoilt_named 
  have c_spoilt_line := ok_spoilt_line (P := P) (w := w) (base := base) T F_spoilt_line c_is_line c_spoilt_named
  have c_spoilt_work := ok_spoilt_work (P := P) (w := w) (base := base) T F_spoilt_work c_is_work c_spoilt_named
  have c_spoilt_handler := ok_spoilt_handler (P := P) (w := w) (base := base) T F_spoilt_handler c_is_step
  have c_check_setup := ok_check_setup (P := P) (w := w) (base := base) T F_check_setup c_spoilt_line c_spoilt_work c_spoilt_handler
  have c_Setup_init := ok_Setup_init (P := P) (w := w) (base := base) T F_Setup_init c_check_setup
  have c_Setup_init1 := ok_Setup_init1 (P := P) (w := w) (base := base) T F_Setup_init c_check_setup
  have c_Setup_len := ok_Setup_len (P := P) (w := w) (base := base) T F_Setup_len 
  have c_is_route := ok_is_route (P := P) (w := w) (base := base) T F_is_route c_Setup_contains c_is_integer
  have c_is_storm := ok_is_storm (P := P) (w := w) (base := base) T F_is_storm c_Setup_contains c_is_integer
  have c_spoilt_route := ok_spoilt_route (P := P) (w := w) (base := base) T F_spoilt_route c_Setup_len c_is_route c_spoilt_named
  have c_spoilt_storm := ok_spoilt_storm (P := P) (w := w) (base := base) T F_spoilt_storm c_Setup_len c_is_storm c_spoilt_named
  have c_check_house := ok_check_house (P := P) (w := w) (base := base) T F_check_house c_is_integer c_spoilt_route c_spoilt_storm
  have c_House_running := ok_House_running (P := P) (w := w) (base := base) T F_House_running 
  have c_House_check_line := ok_House_check_line (P := P) (w := w) (base := base) T F_House_check_line c_Setup_contains
  have c_House_check_processor := ok_House_check_processor (P := P) (w := w) (base := base) T F_House_check_processor c_is_integer
  have c_House_line_row := ok_House_line_row (P := P) (w := w) (base := base) T F_House_line_row c_HouseBoard_tick_number c_Board_is_enabled c_Board_is_high c_Board_waits c_HouseBoard_place_of c_HouseBoard_owner_of c_StormWatch_held_until
  have c_House_ring := ok_House_ring (P := P) (w := w) (base := base) T F_House_ring c_HouseBoard_ring
  have c_House_quiet := ok_House_quiet (P := P) (w := w) (base := base) T F_House_quiet c_HouseBoard_quiet
  have c_House_mask := ok_House_mask (P := P) (w := w) (base := base) T F_House_mask c_Board_mask
  have c_House_unmask := ok_House_unmask (P := P) (w := w) (base := base) T F_House_unmask c_Board_unmask
  have c_House_set_flag := ok_House_set_flag (P := P) (w := w) (base := base) T F_House_set_flag c_Board_set_flag
  have c_House_clear_flag := ok_House_clear_flag (P := P) (w := w) (base := base) T F_House_clear_flag c_Board_clear_flag
  have c_House_call := ok_House_call (P := P) (w := w) (base := base) T F_House_call c_House_check_line c_House_line_row
  have c_House_len := ok_House_len (P := P) (w := w) (base := base) T F_House_len c_House_running
  have c_House_now := ok_House_now (P := P) (w := w) (base := base) T F_House_now c_HouseBoard_tick_number
  have c_House_rings := ok_House_rings (P := P) (w := w) (base := base) T F_House_rings c_HouseBoard_ring_rows
  have c_House_begin_counts := ok_House_begin_counts (P := P) (w := w) (base := base) T F_House_begin_counts 
  have c_House_setup := ok_House_setup (P := P) (w := w) (base := base) T F_House_setup 
  have c_House_routes := ok_House_routes (P := P) (w := w) (base := base) T F_House_routes 
  have c_House_storms := ok_House_storms (P := P) (w := w) (base := base) T F_House_storms 
  have c_House_place := ok_House_place (P := P) (w := w) (base := base) T F_House_place c_HouseBoard_put_on c_HouseBoard_tick_number
  have c_House_place_lines := ok_House_place_lines (P := P) (w := w) (base := base) T F_House_place_lines c_HouseBoard_tick_number c_HouseBoard_unplaced_lines c_StormWatch_held_until c_Router_choose c_House_place
  have c_House_note_events := ok_House_note_events (P := P) (w := w) (base := base) T F_House_note_events c_HouseBoard_tick_number c_StormWatch_note_begin
  have c_House_move_works := ok_House_move_works (P := P) (w := w) (base := base) T F_House_move_works c_Processor_work_rows c_House_running c_Processor_hand_over_works c_HouseBoard_tick_number
  have c_House_let_go_off := ok_House_let_go_off (P := P) (w := w) (base := base) T F_House_let_go_off c_Processor_call_rows c_HouseBoard_tick_number c_House_move_works
  have c_House_tick := ok_House_tick (P := P) (w := w) (base := base) T F_House_tick c_House_place_lines c_House_running c_Processor_take c_HouseBoard_ready_on c_House_note_events c_Processor_go_on c_House_let_go_off c_HouseBoard_pass_tick
  have c_Setup_lines := ok_Setup_lines (P := P) (w := w) (base := base) T F_Setup_lines 
  have c_House_init := fnok_House_init (P := P) (w := w) (base := base) T F_House_init c_check_house c_HouseBoard_init c_Router_init c_StormWatch_init c_Processor_init c_Setup_lines c_Setup_works
  have c_House_init0 := ok_House_init0 (P := P) (w := w) (base := base) T F_House_init c_check_house c_HouseBoard_init c_Router_init c_StormWatch_init c_Processor_init c_Setup_lines c_Setup_works
  have c_House_fate := ok_House_fate (P := P) (w := w) (base := base) T F_House_fate c_is_integer c_HouseBoard_ring_rows c_HouseBoard_ring_fate
  have c_House_getitem := ok_House_getitem (P := P) (w := w) (base := base) T F_House_getitem c_House_check_processor c_Processor_call_rows c_Processor_work_rows c_Processor_bar_now
  have c_law_taken := ok_law_taken (P := P) (w := w) (base := base) T F_law_taken 
  have cX_House_callO := okX_House_callO T F_House_call 
  have cX_House_callR := okX_House_callR T F_House_call c_House_call
  exact ok_law T F_law c_law_taken cX_House_callO cX_House_callR c_Setup_init1 c_House_init0 c_House_begin_counts c_House_ring c_House_quiet c_House_tick
end Cb
open PySem PySem.W PySem.Calls PyProof.Rows
theorem PySem.Challenge.cw_callbells_k65_whole_levels_holds : PySem.Challenge.rw_callbells_k65_whole_levels.Holds := by
  w_on; o_law
  refine HandSHeadRun.head_any (r := OpenLaw.row PySem.Challenge.rw_callbells_k65_whole_levels) (q := view (OpenLaw.row PySem.Challenge.rw_callbells_k65_whole_levels).prog [62]) (H := Cb.hk) (ob := Cb.ob) (M := 30000) (loose := Cb.nms) (d := HandSHeadRun.topDef (OpenLaw.row PySem.Challenge.rw_callbells_k65_whole_levels).prog 62) (kwd := []) Cb.ob_eq
    (by kernel_rfl) (fun s => by kernel_rfl) Cb.run (by kernel_rfl) (by kernel_rfl) (by kernel_rfl) (by rfl) (by first | assumption | decide +kernel) (by decide +kernel) ⟨rfl, rfl, rfl, rfl, rfl, by decide +kernel⟩ ?hw ?hc
  case hw => w_witness2
  case hc =>
    refine L2.walk_ofE (l := PySem.Challenge.rw_callbells_k65_whole_levels) (n := 63) (k := 20) (x := "_law_script") (CX := C8.CX0) rfl (by decide) (by kernel_rfl) ⟨rfl, by decide, by decide⟩ ?F (fun _ _ _ _ z => z)
    intro w mg fa h Y G hmg0
    obtain ⟨K, KX, c⟩ := Y
    have hmg : mg ("law" : PySem.Str) = some (.ref fa) := by
      have e : (HandSHeadRun.topDef (OpenLaw.row PySem.Challenge.rw_callbells_k65_whole_levels).prog 62).name = ("law" : PySem.Str) := by kernel_rfl
      rw [← e]
      exact hmg0
    obtain ⟨fd, hb, hF⟩ := Cb.facts (P := (PySem.Challenge.rw_callbells_k65_whole_levels).prog) (w := w) ⟨by kernel_rfl⟩ (by kernel_rfl) KX G hmg c
    exact ⟨K, fd, Cb.sp_law K, KX, hb, fun H a ns hl _ hS => ⟨a, ns, rfl, hS, fun _ => rfl⟩, hF⟩

