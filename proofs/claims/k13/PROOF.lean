import PyProof.Rows.All
import Wide.All
import OpenK.AllK
import Wide.FinOn
import PySem.Challenge.RW_callbells_k13_copies_and_equality
import KE.KStateDown
import KE.GoesEnum
import HandS.ForExc
import HandS.ForMost
import HandS.Defaults
import HandS.More
import HandS.Star
import HandS.IsInst
import HandS.DictComp
import HandS.Property
import HandS.ClsMeth
import HandS.Walk
import HandS.Sort
import HandS.SortOrd
import HandS.SortRule
import HandS.StrMore
import HandS.Deep
import HandS.DeepEq
import HandS.Head0
import HandS.HeadHook1
import HandS.HeadHook2
import HandS.HeadHook3
import HandS.HeadNt
import HandS.Codes
import HandS.Head1
import HandS.Head2
import HandS.HeadEnd
import HandS.Flow
import PyProof.P3Eq
import HandS.TupAny
import HandS.Conv
import PyProof.DictUpdate
import HandS.Iter
import HandS.OwnEq
import KE.KOpsOwn
import HandS.Style
set_option Elab.async false
set_option linter.all false
set_option maxRecDepth 100000
set_option maxHeartbeats 0
/-! own rules: in and [] by an own class, enumerate over a tuple, an item for an augmented store -/
namespace Cb
open PySem PySem.Spec PyProof.Rows L2
section
variable {X : Cx} {CX : CXT} {k : Nat} {C f : Addr} {fd : FuncData} {ps : List Str} {sp : Sp} {E : XK}

/-- the promise of a method at an object, called by an operator -/
def rOwnB (C : Addr) (sp : Sp) (E : XK) (g : Bool → Bool) : R2 := fun x y H Q =>
  ∃ a dx fs, y = .ref a ∧ H a = some (.ins C dx fs) ∧ sp [.ref a, x] H (fun v H' => ∃ b, v = .bl b ∧ Q (.bl (g b)) H') E
def rOwnI (C : Addr) (sp : Sp) (E : XK) : R2 := fun x y H Q => ∃ a dx fs, x = .ref a ∧ H a = some (.ins C dx fs) ∧ sp [.ref a, y] H Q E

theorem op_inOwn (F : FnOk X.prog X.w X.K X.mg X.base CX k f fd ps sp) (hr : Room k X.A) (hb : Binds X.K fd ps []) (hx : Passes CX X E)
    (hs : PySem.W.findIn X.K (.ref C) "__contains__" = some (some (.ref f))) (hf : PySem.W.isFn X.K (.ref f) = true) : OpR X (compareOp .In) (rOwnB C sp E id) := by
  intro pins s σ H x y v u Q I rx ry h
  obtain ⟨a, dx, fs, rfl, ha, hq⟩ := h
  cases ry
  obtain ⟨_, J0, _⟩ := ins_get I.hok ha
  obtain ⟨_, J, _⟩ := J0.look
  obtain ⟨m, hF⟩ := I.fr
  refine PySem.W.in_K hF I.ok.mod.kin J hs hf ?_
  refine thn (run_fn (us := [.ref a, v]) (vs := [.ref a, x]) F hr hb (.nil : Vals [] []) hx I (.cons rfl (.cons rx .nil)) hq) fun w s1 z => ?_
  obtain ⟨r, H1, I1, rw1, b, rfl, q⟩ := z
  cases rw1
  exact wpAny_truthy_bool ⟨.bl b, H1, I1, rfl, q⟩
theorem op_ninOwn (F : FnOk X.prog X.w X.K X.mg X.base CX k f fd ps sp) (hr : Room k X.A) (hb : Binds X.K fd ps []) (hx : Passes CX X E)
    (hs : PySem.W.findIn X.K (.ref C) "__contains__" = some (some (.ref f))) (hf : PySem.W.isFn X.K (.ref f) = true) : OpR X (compareOp .NotIn) (rOwnB C sp E not) := by
  intro pins s σ H x y v u Q I rx ry h
  obtain ⟨a, dx, fs, rfl, ha, hq⟩ := h
  cases ry
  obtain ⟨_, J0, _⟩ := ins_get I.hok ha
  obtain ⟨_, J, _⟩ := J0.look
  obtain ⟨m, hF⟩ := I.fr
  refine PySem.W.notIn_K hF I.ok.mod.kin J hs hf ?_
  refine thn (run_fn (us := [.ref a, v]) (vs := [.ref a, x]) F hr hb (.nil : Vals [] []) hx I (.cons rfl (.cons rx .nil)) hq) fun w s1 z => ?_
  obtain ⟨r, H1, I1, rw1, b, rfl, q⟩ := z
  cases rw1
  exact wpAny_truthy_bool ⟨.bl (!b), H1, I1, rfl, q⟩
theorem get_own (F : FnOk X.prog X.w X.K X.mg X.base CX k f fd ps sp) (hr : Room k X.A) (hb : Binds X.K fd ps []) (hx : Passes CX X E) (hq0 : PySem.W.noSeq X.K C = true)
    (hs : PySem.W.findIn X.K (.ref C) "__getitem__" = some (some (.ref f))) (hf : PySem.W.isFn X.K (.ref f) = true) : PGet X (rOwnI C sp E) := by
  intro pins s σ H x y v u Q I rx ry h
  obtain ⟨a, dx, fs, rfl, ha, hq⟩ := h
  cases rx
  obtain ⟨_, J0, _⟩ := ins_get I.hok ha
  obtain ⟨_, J, _⟩ := J0.look
  obtain ⟨m, hF⟩ := I.fr
  refine PySem.W.getItem_K hF I.ok.mod.kin J hq0 hs hf ?_
  exact run_fn (us := [.ref a, u]) (vs := [.ref a, y]) F hr hb (.nil : Vals [] []) hx I (.cons rfl (.cons ry .nil)) hq

theorem pe_ixOwn {a b : Expr} {ta tb : TE} {pos : Pos} (F : FnOk X.prog X.w X.K X.mg X.base CX k f fd ps sp) (hr : Room (k + 1) X.A) (hb : Binds X.K fd ps []) (hx : Passes CX X E)
    (hs : PySem.W.findIn X.K (.ref C) "__getitem__" = some (some (.ref f))) (hf : PySem.W.isFn X.K (.ref f) = true) (hfn : PySem.W.fnIn X.K f = true) (ha : PE X a ta) (hi : PE X b tb)
    (hsl : ∀ o i, subscripted b true o i = runValue (.builtin "lifetime.subscript" ⟨[o, i], []⟩) := by intro _ _; rfl) : PE X (.Subscript a b pos) (tOp (rOwnI C sp E) ta tb) := by
  refine ⟨fun pins s0 σ H0 Q I0 h => ?_⟩
  refine Subscript_ (binT ha hi I0 h fun v u s x y H I rx ry hq1 => ?_)
  obtain ⟨a, dx, fs, rfl, hA, hq⟩ := hq1
  cases rx
  obtain ⟨_, J0, _⟩ := ins_get I.hok hA
  obtain ⟨_, J, _⟩ := J0.look
  obtain ⟨m, hF⟩ := I.fr
  refine PySem.W.sub_K hF I.ok.mod.kin J hs hfn hf ?_ (hsl _ _)
  have r2 : Vals [V.ref a, y] [Value.ref a, u] := .cons rfl (.cons ry .nil)
  have hl : ([Value.ref a, u] : List Value).length = ps.length := F.len _ _ _ _ hq
  have bt := hb s [Value.ref a, u] I.kIn (by simpa using hl)
  rw [List.append_nil] at bt
  refine wpAny_call (codeAny_mono (F.run X.A.in1 X.stack s H ⟨[.ref a, u], []⟩ _ _ Q E hr.in1 I.env0.in1 bt r2 hq) fun r s' z => ?_)
  cases r with
  | error e => exact hx pins σ H s e s' I z
  | ok fl => cases fl with
    | ret w => exact I.after z
    | _ => exact False.elim z
end
end Cb

namespace Cb
open PySem PySem.Spec PyProof.Rows L2
open Sem (wp)
/-! enumerate over a tuple -/
abbrev itO (t : Addr) : Obj := { cls := .type "tuple_iterator", data := .fields #[.ref t, .int 0 0] }
abbrev enO (i : Addr) : Obj := { cls := .type "enumerate", data := .fields #[.none, .bool false, .ref i, rawInt 0, .none, .none] }
theorem newT (t : Addr) (its : Array Value) :
    Meets (Builtin.«enumerate.__new__» ⟨[.type "enumerate", .ref t], []⟩) (fun _ R s => s.heap.IsTuple t its ∧ R (.ok (.ret (.ref (s.heap.push (itO t)).objs.size)))
        { s with heap := (s.heap.push (itO t)).push (enO s.heap.objs.size) }) := by
  refine .of_wp fun prog w A R s h => ?_
  obtain ⟨hp, g, d, tk, os⟩ := s
  obtain ⟨h1, h⟩ := h
  have sub0 := sub_enumerate
  have q1 : ∀ {A' : Around} {E : Value → Shared → Prop} {Q : Value → Shared → Prop}, Q (.ref hp.objs.size) ⟨hp.push (itO t), g, d, tk, os⟩ → wpAny (model prog w) A' (pyIter (.ref t)) Q E ⟨hp, g, d, tk, os⟩ :=
    fun q => (begins_tuple t its).iter prog w _ _ ⟨hp, g, d, tk, os⟩ _ h1 q
  wp_walk using q1
  refine wpAny_stack_any fun st => wpAny_pure ?_
  split
  · rename_i c _ _ _ _ _
    cases (c == Value.type "enumerate") <;> (wp_walk using q1; exact ⟨_, rfl, h⟩)
  · wp_walk using q1
    exact ⟨_, rfl, h⟩
section
variable {prog : Program} {w : World} {A : Around} {E : Value → Shared → Prop} {s : Shared}
theorem call_enumT {t : Addr} {its : Array Value} {Q : Value → Shared → Prop} (hL : s.heap.IsTuple t its)
    (h : ∀ h', IsEnum h' (s.heap.objs.size + 1) s.heap.objs.size 0 .none → h'.IsTupleIter s.heap.objs.size t 0 → h'.objs.size = s.heap.objs.size + 2 →
      (∀ b o, s.heap.get? b = some o → h'.get? b = some o) → Q (.ref (s.heap.objs.size + 1)) { s with heap := h' }) :
    wpAny (model prog w) A (call (.type "enumerate") [.ref t]) Q E s := by
  refine callType_new F.called_enumerate (by decide) (F.typeCall_enumerate_1 _) (F.newCall_enumerate_1 _) (fun obj => F.args_object_init_2 obj _) F.entry_enumerate_new (newT t its) ⟨hL, ?_⟩
  have hz : (s.heap.push (itO t)).objs.size = s.heap.objs.size + 1 := Heap.size_push ..
  show _ ∧ _
  rw [hz]
  have he : IsEnum ((s.heap.push (itO t)).push (enO s.heap.objs.size)) (s.heap.objs.size + 1) s.heap.objs.size 0 .none := by
    have z := Heap.get?_push_size (s.heap.push (itO t)) (o := enO s.heap.objs.size) rfl
    rw [hz] at z
    exact z
  exact ⟨⟨_, he, rfl⟩, h _ he ⟨_, Heap.get?_push_of_some _ (Heap.get?_push_size _ rfl), rfl, rfl⟩ (by rw [Heap.size_push, hz]) fun b o x => Heap.get?_push_of_some _ (Heap.get?_push_of_some _ x)⟩
end
/-- the tuple at a, each item in a new pair -/
def Iet (K : PySem.W.Frag) (a : Addr) : It :=
  ⟨fun i H => ∃ (xs : List V) (x : V), SqT K H a xs ∧ xs[i]? = some x,
   fun i H v H' => ∃ T x, v = .ref T ∧ H T = none ∧ H' = upd H T (.tup [.int (i : Nat), x]) ∧ ∀ xs, SqT K H a xs → xs[i]? = some x,
   fun i H => ∃ xs : List V, SqT K H a xs ∧ xs.length ≤ i⟩
theorem turn_enumT {P : Program} {w : World} {K : PySem.W.Frag} {elts : List Expr} {kk : Nat} {tpos : Pos} (a e it : Addr) :
    Turn P w K (.Tuple elts kk tpos) (Iet K a) [e, it] e (fun i h => (∃ old, IsEnum h e it ((i : Nat) : Int) old) ∧ h.IsTupleIter it a i ∧ e ≠ it) where
  mem := by simp
  obj := fun i h st b hb => by
    obtain ⟨⟨old, he⟩, ⟨o, ho, hc, hd⟩, _⟩ := st
    rcases List.mem_cons.mp hb with z | z
    · subst z
      exact ⟨_, he, fun v q => nomatch q⟩
    · rw [List.mem_singleton.mp z]
      exact ⟨o, ho, fun v q => by rw [hd] at q; cases q⟩
  keep := fun i h h' st k => by
    obtain ⟨⟨old, he⟩, hi, hne⟩ := st
    exact ⟨⟨old, k e (by simp) _ he⟩, hi.at fun o q => k it (by simp) o q, hne⟩
  item := by
    intro X hP hw hK hc i pins s σ H E I hf st hg
    subst hP hw hK
    obtain ⟨⟨old, he⟩, hit, hne⟩ := st
    obtain ⟨xs, x, hq, hx⟩ := hg
    obtain ⟨its, rv, p, hz⟩ := I.tuple hq
    have pT : s.heap.IsTuple a its.toArray := p
    obtain ⟨u, hu, ru⟩ := rv.get hx
    have hel : e < s.heap.objs.size := Heap.lt_size he
    have hil : it < s.heap.objs.size := by
      obtain ⟨_, q, _⟩ := hit
      exact Heap.lt_size q
    obtain ⟨ot, hot, hct, _⟩ := id pT
    have nea : e ≠ a := by
      rintro rfl
      rw [he] at hot
      have z := Option.some.inj hot
      rw [← z] at hct
      injection hct with z3
      exact absurd z3 (by decide)
    have nia : a ≠ it := by
      rintro rfl
      obtain ⟨o2, ho2, hc2, _⟩ := id hit
      rw [ho2] at hot
      have z := Option.some.inj hot
      rw [z, hct] at hc2
      injection hc2 with z3
      exact absurd z3 (by decide)
    have D := Draws.tuple (prog := X.prog) (w := X.w) (A := X.A.in1) (by exact I.ok.hd hc) it a nia its.toArray
    have hlt : i < its.toArray.size := by
      have z := (List.getElem?_eq_some_iff.mp hu).1
      simpa using z
    refine wpAny_pyNext_enum_itemD D he ⟨hit, pT⟩ hlt hne (by simp [hne, nea]) fun y h' tk hy ho hit' hT hsz hk => ?_
    have ey : y = u := by
      have z : its[i]? = some y := by simpa using hy
      exact Option.some.inj (z.symm.trans hu)
    subst ey
    refine ⟨_, rfl, wpAny_letOwnedTupleGo_enum (s := { s with heap := h', toks := tk + 1 }) ho fun h'' he' sb => ?_⟩
    have hT2 : h''.get? s.heap.objs.size = some { cls := .type "tuple", data := .seq #[.int i tk, y] } := (sb.2 _ (Nat.ne_of_gt hel)).trans hT
    have new : ObjOk X.prog X.w (upd H s.heap.objs.size (.tup [.int (i : Nat), x])) h'' s.heap.objs.size (.tup [.int (i : Nat), x]) :=
      ⟨by show 2 ≤ sizeLine; decide, [.int i tk, y], .cons ⟨_, rfl⟩ (.cons ru .nil), ⟨_, hT2, rfl, _, rfl⟩⟩
    have I1 : Inv X pins σ (upd H s.heap.objs.size (.tup [.int (i : Nat), x])) { s with heap := h'', toks := tk + 1 } := by
      refine I.turnedNew (ch := [e, it]) (fun b ob hb q => ?_) hf (Nat.le_refl _) new
      have b1 : b ≠ e := fun z => hb (by simp [z])
      have b2 : b ≠ it := fun z => hb (by simp [z])
      exact (sb.2 b b1).trans (hk b ob b1 b2 q)
    refine ⟨.ref s.heap.objs.size, _, I1, rfl, ⟨_, x, rfl, I.hok.fresh (Nat.le_refl _), rfl, fun ys hy => by rw [I.tuple_inj hy hq]; exact hx⟩, ⟨⟨y, ?_⟩, hit'.1.at fun o q => (sb.2 it (Ne.symm hne)).trans q, hne⟩, fun b hb => ?_⟩
    · rw [show ((i + 1 : Nat) : Int) = (i : Int) + 1 by omega]
      exact he'
    · have hb' : b < s.heap.objs.size := by
        rcases List.mem_cons.mp hb with z | z
        · rw [z]
          exact hel
        · rw [List.mem_singleton.mp z]
          exact hil
      rw [upd_ne (Nat.ne_of_lt hb')]
      exact (hf b hb).1
  done := by
    intro X hP hw hK hc i pins s σ H E I hf st hg
    subst hP hw hK
    obtain ⟨⟨old, he⟩, hit, hne⟩ := st
    obtain ⟨xs, hq, hx⟩ := hg
    obtain ⟨its, rv, p, hz⟩ := I.tuple hq
    have pT : s.heap.IsTuple a its.toArray := p
    obtain ⟨f0, f1, f2, f3, f4, f5⟩ := hf it (by simp)
    obtain ⟨ot, hot, hct, _⟩ := id pT
    have nia : a ≠ it := by
      rintro rfl
      obtain ⟨o2, ho2, hc2, _⟩ := id hit
      rw [ho2] at hot
      have z := Option.some.inj hot
      rw [z, hct] at hc2
      injection hc2 with z3
      exact absurd z3 (by decide)
    have hT : s.TypeIs (.ref e) "enumerate" := ⟨_, he, rfl⟩
    have hlen : its.toArray.size ≤ i := by
      have z := rv.length
      simp
      omega
    unfold pyNext
    refine wpAny_bind (wpAny_attempt (wpAny_callSpecial?_slot (name := Str.ofString "__next__") hT F.slot_enumerate_next (wpAny_call_entry F.slot_enumerate_next hT F.entry_enumerate_next ?_ (F.args_enumerate_next_1 _))))
    show wpAny _ _ (field (.ref e) 2 >>= _) _ _ _
    refine wpAny_bind (wpAny_field he rfl (x := .ref it) rfl ?_)
    refine wpAny_bind (wpAny_nextOf_tuple_end (A := X.A.in1) (by exact I.ok.hd hc) hit pT (by simpa using hlen) fun h' x he' hx' => ?_)
    obtain ⟨o, ho, hc'⟩ := hx'
    refine wpAny_bind (wpAny_isInstance (T := "StopIteration") (b := true) ⟨o, ho, hc'⟩ isSubtype_stop ?_)
    exact wpAny_pure ⟨rfl, I.turned (t' := s.toks) (fun b o hb q => he' b o hb q) f0 f1 f3 f4 f5⟩
  self := fun A i s Q E st h => let ⟨⟨_, he⟩, _⟩ := st; wpAny_pyIter_enum he h
def iEnumT (K : PySem.W.Frag) (ta : TA) : TI := fun σ H R => ta σ H fun vs H1 => ∃ a xs, vs = [.ref a] ∧ SqT K H1 a xs ∧ R (Iet K a) H1
theorem pi_enumT {X : Cx} {e : Expr} {ta : TA} {p pos tpos : Pos} {elts : List Expr} {kk : Nat} (hg : Gl X "enumerate") (hm : X.mg "enumerate" = none) (ha : PA X [e] ta)
    (hs : starEach [e] X.env = [(false, eval e X.env)] := by rfl) : PI X (.Tuple elts kk tpos) (.Call (.Name "enumerate" p) [e] [] pos) (iEnumT X.K ta) := by
  refine ⟨fun pins s σ H R I h => ?_⟩
  refine Call_ (ld_blt I hg hm boot_enumerate (PyProof.Rows.callWith_type1 (thn (ha.run pos pins s σ H _ I h) fun us s1 z => ?_) hs rfl))
  obtain ⟨vs, H1, I1, r1, a, xs, ex, hq, q⟩ := z
  subst ex
  cases r1 with
  | cons r rr =>
    cases rr
    cases r
    obtain ⟨its, rv, p', hz⟩ := I1.tuple hq
    have pT : s1.heap.IsTuple a its.toArray := p'
    refine call_enumT pT fun h' he hit hsz hk => wpAny_pyIter_enum he ?_
    have I2 : Inv X pins σ H1 { s1 with heap := h' } := I1.kept (t' := s1.toks) hk
    refine ⟨s1.heap.objs.size + 1, [s1.heap.objs.size + 1, s1.heap.objs.size], _, _, H1, rfl, I2, turn_enumT a (s1.heap.objs.size + 1) s1.heap.objs.size, ⟨⟨.none, he⟩, hit, Nat.succ_ne_self _⟩, fun b hb => ?_, q⟩
    have hle : s1.heap.objs.size ≤ b := by
      rcases List.mem_cons.mp hb with y | y
      · exact y ▸ Nat.le_succ _
      · exact Nat.le_of_eq (List.mem_singleton.mp y).symm
    exact I1.fpOk hle (I1.hok.fresh hle)
theorem walk_enumT {K : PySem.W.Frag} {a : Addr} {xs : List V} : Walk (Iet K a) xs.length (fun H => SqT K H a xs) (YPair (fun i => some (.int (i : Nat))) (fun i => xs[i]?)) := by
  refine ⟨fun i _ hi q => ⟨xs, xs[i], q, by simp [hi]⟩, fun _ q => ⟨xs, q, Nat.le_refl _⟩, fun i H v H' _ q y => ?_⟩
  obtain ⟨T, x, y1, y2, y3, y4⟩ := y
  exact ⟨T, _, x, y1, y2, y3, rfl, y4 xs q⟩
/-- a dict comprehension over a walk -/
theorem dc_it {J : It} {n : Nat} {G : Hp → Prop} {Y : Nat → Hp → V → Hp → Prop} (w : Walk J n G Y) {g : TG} {tt : TT} {tk tv : TE} {vs : List Nat} {σ : L2.St} {H1 : Hp} {D : Addr} {Qd : Hp → Prop}
    (Pv : Nat → Hp → Prop) (h0 : Pv 0 (upd H1 D (.dK []))) (hG : ∀ i H, i ≤ n → Pv i H → G H)
    (hs : ∀ i x H H', i < n → Pv i H → Y i H x H' → g x (wipe σ vs) H' fun σ2 H2 => wipe σ2 vs = wipe σ vs ∧ tt σ2 H2 fun b H3 =>
      if b = true then tk σ2 H3 fun y H4 => tv σ2 H4 fun z H5 => ∃ kvs k, y = kV k ∧ H5 D = some (.dK kvs) ∧ kvs.length < sizeLine ∧ Pv (i + 1) (upd H5 D (.dK (putK kvs k z))) else Pv (i + 1) H3)
    (hd : ∀ H, Pv n H → Qd H) :
    ∃ W : Nat → Nat → Hp → Prop, (∃ m, W 0 m (upd H1 D (.dK []))) ∧ ∀ i m H, W i m H →
      (J.stop i H ∧ Qd H) ∨ (J.go i H ∧ ∃ Nx : Hp → Prop, (∀ H', Nx H' → ∃ m', m' < m ∧ W (i + 1) m' H') ∧ ∀ x H', J.yld i H x H' → g x (wipe σ vs) H' fun σ2 H2 => wipe σ2 vs = wipe σ vs ∧ tt σ2 H2 fun b H3 =>
        if b = true then tk σ2 H3 fun y H4 => tv σ2 H4 fun z H5 => ∃ kvs k, y = kV k ∧ H5 D = some (.dK kvs) ∧ kvs.length < sizeLine ∧ Nx (upd H5 D (.dK (putK kvs k z))) else Nx H3) := by
  refine ⟨fun i m H => m = n - i ∧ i ≤ n ∧ Pv i H, ⟨n, by simp, Nat.zero_le _, h0⟩, ?_⟩
  rintro i m H ⟨rfl, hi, p⟩
  have q := hG i H hi p
  rcases Nat.lt_or_ge i n with hlt | hge
  · exact .inr ⟨w.goes i H hlt q, Pv (i + 1), fun H' p' => ⟨n - (i + 1), by omega, rfl, hlt, p'⟩, fun x H' y => hs i x H H' hlt p (w.yields i H x H' hlt q y)⟩
  · obtain rfl : i = n := by omega
    exact .inl ⟨w.stops H q, hd H p⟩
/-- an item, for an augmented store -/
theorem get_list {X : Cx} : PGet X (fun x y H Q => ∃ p xs j v, x = .ref p ∧ y = .int (j : Nat) ∧ SqL X.K H p xs ∧ xs[j]? = some v ∧ Q v H) := by
  intro pins s σ H x y v u Q I rx ry h
  obtain ⟨p, xs, j, z, rfl, rfl, hq, he, q⟩ := h
  cases rx
  obtain ⟨t, rfl⟩ := ry
  obtain ⟨its, r, pl, hz⟩ := I.list hq
  obtain ⟨w, ew, rw'⟩ := r.get he
  have hj : j < its.length := (List.getElem?_eq_some_iff.mp ew).1
  have h63 := line63
  have hl := r.length
  exact wpAny_getItem_list pl.isList (by omega) (by omega) (by simpa using ew) ⟨z, H, I, rw', q⟩
end Cb

/-! sorted of pairs of an int and a text -/
namespace Cb
open PySem PySem.Spec PyProof.Rows L2
def strLt (x y : Str) : Bool := decide (x.cps.toList < y.cps.toList)
def lexIS (p q : Int × Str) : Bool := if p.1 = q.1 then strLt p.2 q.2 else decide (p.1 < q.1)
theorem strLt_asym {x y : Str} (h : strLt x y = true) : strLt y x = false := by
  have a : x.cps.toList < y.cps.toList := of_decide_eq_true h
  exact decide_eq_false (List.lt_asymm a)
theorem strLt_tr {x y z : Str} (h1 : strLt y x = false) (h2 : strLt z y = false) : strLt z x = false := by
  have a : ¬ y.cps.toList < x.cps.toList := of_decide_eq_false h1
  have b : ¬ z.cps.toList < y.cps.toList := of_decide_eq_false h2
  exact decide_eq_false (List.not_lt.mpr (List.le_trans (List.not_lt.mp a) (List.not_lt.mp b)))
theorem lexIS_swo {α : Type} (k : α → Int × Str) : SrtO.Swo fun v u => lexIS (k v) (k u) := by
  refine ⟨fun x y h => ?_, fun x y z h1 h2 => ?_⟩
  · unfold lexIS at h ⊢
    by_cases e : (k x).1 = (k y).1
    · rw [if_pos e] at h
      rw [if_pos e.symm]
      exact strLt_asym h
    · rw [if_neg e, decide_eq_true_eq] at h
      rw [if_neg (Ne.symm e), decide_eq_false_iff_not]
      omega
  · unfold lexIS at h1 h2 ⊢
    by_cases e1 : (k y).1 = (k x).1
    · rw [if_pos e1] at h1
      by_cases e2 : (k z).1 = (k y).1
      · rw [if_pos e2] at h2
        rw [if_pos (e2.trans e1)]
        exact strLt_tr h1 h2
      · rw [if_neg e2, decide_eq_false_iff_not] at h2
        rw [if_neg (by omega), decide_eq_false_iff_not]
        omega
    · rw [if_neg e1, decide_eq_false_iff_not] at h1
      by_cases e2 : (k z).1 = (k y).1
      · rw [if_neg (by omega), decide_eq_false_iff_not]
        omega
      · rw [if_neg e2, decide_eq_false_iff_not] at h2
        rw [if_neg (by omega), decide_eq_false_iff_not]
        omega
def IsIS (h : Heap) (v : Value) (x : Int) (y : Str) : Prop := ∃ a o t u n, v = .ref a ∧ h.get? a = some o ∧ o.cls = .type "tuple" ∧ o.data = .seq #[.int x t, .str y u] n
theorem IsIS.keeps {h h' : Heap} {v : Value} {x : Int} {y : Str} (p : IsIS h v x y) (k : ∀ b o, h.get? b = some o → o.cls = .type "tuple" → h'.get? b = some o) : IsIS h' v x y := by
  obtain ⟨a, o, t, u, n, e, ho, hc, hd⟩ := p
  exact ⟨a, o, t, u, n, e, k _ _ ho hc, hc, hd⟩
section
variable {prog : Program} {w : World} {A : Around} {E : Value → Shared → Prop} {s : Shared}
theorem cmp_IS {vs : List Value} {k : Value → Int × Str} (hp : ∀ v ∈ vs, IsIS s.heap v (k v).1 (k v).2) : SrtO.Cmp prog w A s (tuples' true) (fun p => p.1 ∈ vs) (SrtO.lt2 fun v u => lexIS (k v) (k u)) := by
  intro p q hm hm'
  have g1 := hp _ hm
  have g2 := hp _ hm'
  show wpAny (model prog w) A (keyLt' (tuples' true) p.1 q.1) (fun r s' => s' = s ∧ r = lexIS (k p.1) (k q.1)) (fun _ _ => False) s
  generalize k p.1 = kp at g1 ⊢
  generalize k q.1 = kq at g2 ⊢
  obtain ⟨x, y⟩ := kp
  obtain ⟨x', y'⟩ := kq
  obtain ⟨a, o, t, u, n, e, ho, hc, hd⟩ := g1
  obtain ⟨a', o', t', u', n', e', ho', hc', hd'⟩ := g2
  rw [e, e']
  refine PySem.W.kat_lt ho hd ho' hd' ?_
  show PySem.W.KatLex prog w A true (decide (2 < 2)) _ [(.int x t, .int x' t'), (.str y u, .str y' u')] 0 s
  refine PySem.W.kat_cons (SeqAt.EqAt.int_int x t x' t' prog w _ _ ?_)
  refine PySem.W.kat_go (fun e1 => ?_) (fun e1 => ?_)
  · obtain rfl : x = x' := by simpa using e1
    refine PySem.W.kat_yes (PySem.W.kat_cons (wpAny_eqBool_str ?_))
    refine PySem.W.kat_go (fun e2 => ?_) (fun e2 => ?_)
    · obtain rfl : y = y' := of_decide_eq_true e2
      refine PySem.W.kat_yes (PySem.W.kat_nil ⟨rfl, ?_⟩)
      unfold lexIS strLt
      rw [if_pos rfl]
      exact (decide_eq_false (List.lt_irrefl _)).symm
    · refine PySem.W.kat_no (PySem.W.kat_one _ _ (PyProof.Rows.lt_str ?_))
      refine (show s = s ∧ decide (y.cps.toList < y'.cps.toList) = _ from ⟨rfl, ?_⟩)
      unfold lexIS strLt
      exact (if_pos rfl).symm
  · have ex : ¬ x = x' := by simpa using e1
    refine PySem.W.kat_no (oneLt_int ⟨rfl, ?_⟩)
    unfold lexIS
    exact (if_neg ex).symm
theorem firsts_IS {h : Heap} : ∀ {vs : List Value}, (∀ v ∈ vs, ∃ x y, IsIS h v x y) → ∃ fs, PySem.W.KatTups h vs fs ∧ fs.length = vs.length ∧ ∀ f ∈ fs, ∃ x t, f = Value.int x t
  | [], _ => ⟨[], .nil, rfl, fun _ z => nomatch z⟩
  | v :: vs, hv => by
    obtain ⟨x, y, a, o, t, u, n, rfl, ho, hc, hd⟩ := hv v List.mem_cons_self
    obtain ⟨fs, f1, f2, f3⟩ := firsts_IS (vs := vs) fun z hz => hv z (List.mem_cons_of_mem _ hz)
    refine ⟨.int x t :: fs, .cons ho hc hd rfl f1, by simp [f2], fun f hf => ?_⟩
    rcases List.mem_cons.mp hf with z | z
    · exact ⟨x, t, z⟩
    · exact f3 f z
theorem sortable_IS {a : Addr} {vs : List Value} {k : Value → Int × Str} (h0 : 0 < vs.length) (hp : ∀ v ∈ vs, IsIS s.heap v (k v).1 (k v).2) (ha : ∀ o, s.heap.get? a = some o → o.cls ≠ .type "tuple") :
    SrtO.SortableO prog w A s a vs fun v u => lexIS (k v) (k u) := by
  intro h' keep
  have hp' : ∀ v ∈ vs, IsIS h' v (k v).1 (k v).2 := fun v hm => (hp v hm).keeps fun b o e c => keep b o (fun z => ha o (z ▸ e) c) e
  obtain ⟨fs, f1, f2, f3⟩ := firsts_IS fun v hm => ⟨_, _, hp' v hm⟩
  refine ⟨tuples' true, fun Q E hq => ?_, cmp_IS hp'⟩
  refine PySem.W.kat_kind (T := .type "int") f1 (by omega) (fun f hm => ?_) (by rfl) ?_
  · obtain ⟨x, t, rfl⟩ := f3 f hm
    exact PySem.W.Looks.now
  · rw [show (Value.type "int" != Value.type "tuple") = true by first | decide +kernel | rfl]
    exact hq
theorem sorted_IS {l : Addr} {vs : List Value} {k : Value → Int × Str} {Q : Value → Shared → Prop} (hl : s.heap.IsList l vs.toArray) (hz : vs.length ≤ sizeLine) (hp : ∀ v ∈ vs, IsIS s.heap v (k v).1 (k v).2)
    (h : ∀ (h' : Heap) (d : Addr) (out : List Value), SrtO.Srtd (fun v u => lexIS (k v) (k u)) out → SrtO.Stb (fun v u => lexIS (k v) (k u)) out vs → (∀ b o, s.heap.get? b = some o → h'.get? b = some o) → s.heap.objs.size ≤ d →
      (∃ n, h'.get? d = some (seqObj "list" out.toArray n)) → Q (.ref d) { s with heap := h' }) : wpAny (model prog w) A (call (.builtin "sorted") [.ref l]) Q E s := by
  refine SrtO.sorted_ord (lexIS_swo k) hl hz (fun h2 h₁ a ha kk => ?_) fun out hs hb => h _ _ out hs hb (fun b o e => sortedAll_old e) (Nat.le_succ _) (sortedAll_at s.heap vs out.toArray)
  refine sortable_IS (s := { s with heap := h₁ }) (by omega) (fun v hm => (hp v hm).keeps fun b o e _ => (kk b o e).2) fun o e => ?_
  cases (show some o = some (seqObj "list" vs.toArray 0) from e.symm.trans ha)
  intro c
  exact absurd (Value.type.inj c) (by decide)
end
/-- sorted(xs), xs a list of pairs of an int and a text -/
def rSortIS (K : PySem.W.Frag) : List V → Hp → VK → Prop := fun vs H Q => ∃ (a : Addr) (xs : List V) (k : V → Int × Str), vs = [V.ref a] ∧ SqL K H a xs ∧ (∀ x ∈ xs, ∃ t, x = V.ref t ∧ H t = some (.tup [.int (k x).1, .str (k x).2])) ∧
  ∀ ys p, SrtO.Srtd (fun v u => lexIS (k v) (k u)) ys → SrtO.Stb (fun v u => lexIS (k v) (k u)) ys xs → H p = none → Q (.ref p) (upd H p (.lst ys))
theorem cr_sortIS {X : Cx} : CallR X (.builtin "sorted") (rSortIS X.K) := by
  intro pins s σ H vs us Q I r h
  obtain ⟨a, xs, k, rfl, hs, hx, q⟩ := h
  obtain ⟨its, rv, hl, hz⟩ := I.list hs
  obtain ⟨u, rfl, ru⟩ := vals1 r
  obtain rfl : u = Value.ref a := ru
  obtain ⟨e1, e2⟩ := refs_back rv fun x m => by
    obtain ⟨t, e, _⟩ := hx x m
    exact ⟨t, e⟩
  have hzz : its.length ≤ sizeLine := by
    rw [← rv.length]
    exact hz
  refine sorted_IS (k := fun u => k (backV u)) hl.isList hzz (fun v hv => ?_) fun h' d out o1 o2 kp hd hn => ?_
  · obtain ⟨t, rfl⟩ := e2 v hv
    have hm : V.ref t ∈ xs := by
      rw [e1]
      exact List.mem_map.mpr ⟨_, hv, rfl⟩
    obtain ⟨t', e, ht⟩ := hx _ hm
    cases e
    obtain ⟨_, its2, r2, o, ho, hc, n, hd⟩ := I.hok _ _ ht
    obtain ⟨u1, u2, rfl, ri, rj⟩ := vals2 r2
    obtain ⟨t1, rfl⟩ := ri
    obtain ⟨t2, rfl⟩ := rj
    exact ⟨t, o, t1, t2, n, rfl, ho, hc, hd⟩
  · have h3 : ∀ u ∈ out, ∃ a, u = Value.ref a := fun u hu => e2 u (o2.perm.mem_iff.mp hu)
    obtain ⟨n, hn⟩ := hn
    have hb : SrtO.Stb (fun v u => lexIS (k v) (k u)) (out.map backV) xs := by
      rw [e1]
      exact SrtO.Stb.map (lexIS_swo k) backV o2
    have hlen : (out.map backV).length ≤ sizeLine := by
      rw [hb.len]
      exact hz
    exact ⟨.ref d, upd H d (.lst (out.map backV)), I.laid (t' := s.toks) kp hd ⟨hlen, out, n, vals_back h3, hn⟩, rfl, q _ d (SrtO.srtd_map o1) hb (I.hok.fresh hd)⟩
end Cb

namespace Cb
open PySem PySem.Spec PyProof.Rows L2
section
variable {prog : Program} {w : World} {A : Around} {E : Value → Shared → Prop} {s : Shared}
theorem sumT_raw {t : Addr} {its : List Value} {ns : List Int} {Q : Value → Shared → Prop} (hh : A.handled = none) (hl : s.heap.IsTuple t its.toArray) (hi : ∀ (i : Nat) v, its[i]? = some v → ∃ tk, v = Value.int (ns.getD i 0) tk) (hn : its.length = ns.length)
    (h : ∀ h' tk t', (∀ b o, s.heap.get? b = some o → h'.get? b = some o) → Q (.int ns.sum t') { s with heap := h', toks := tk }) : wpAny (model prog w) A (call (.builtin "sum") [.ref t]) Q E s := by
  have ht : t < s.heap.objs.size := by
    obtain ⟨o, ho, _⟩ := hl
    exact Heap.lt_size ho
  refine call_sum_walkG (wpAny_pyIter_tuple hl ⟨s.heap.objs.size, _, _, _, _, _, fun i => ns.getD i 0, rfl, Walks.tuple (by simpa using hh) _ t (Nat.ne_of_lt ht) its.toArray, ⟨?_, ?_⟩, ?_, ?_, ?_⟩)
  · exact ⟨_, Heap.get?_push_size _ rfl, rfl, rfl⟩
  · exact hl.at fun o q => Heap.get?_push_of_some _ q
  · intro b hb
    show b < (s.heap.push _).objs.size
    rw [Heap.size_push]
    rcases List.mem_cons.mp hb with z | z
    · rw [z]
      exact Nat.lt_succ_self _
    · rw [List.mem_singleton.mp z]
      exact Nat.lt_succ_of_lt ht
  · intro i v e
    exact hi i v (by simpa using e)
  · intro h' tk t' k
    have e : preSum (fun i => ns.getD i 0) its.toArray.size = ns.sum := by
      rw [preSum_getD]
      simp [hn]
    rw [e]
    refine h h' tk t' fun b o hb => k b o ?_ ?_
    · exact fun z => Nat.ne_of_lt (Heap.lt_size hb) (List.mem_singleton.mp z)
    · exact Heap.get?_push_of_some _ hb
end
def rSumT (K : PySem.W.Frag) : List V → Hp → VK → Prop := fun vs H Q => ∃ (a : Addr) (ns : List Int), vs = [V.ref a] ∧ SqT K H a (ns.map V.int) ∧ Q (.int ns.sum) H
theorem cr_sumT {X : Cx} (hc : X.calm = true) : CallR X (.builtin "sum") (rSumT X.K) := by
  intro pins s σ H vs us Q I r h
  obtain ⟨a, ns, rfl, hs, q⟩ := h
  obtain ⟨its, rv, p, hz⟩ := I.tuple hs
  obtain ⟨u, rfl, ru⟩ := vals1 r
  obtain rfl : u = Value.ref a := ru
  have hlen : its.length = ns.length := by
    have := rv.length
    simpa using this.symm
  refine sumT_raw (I.ok.hd hc) p (fun i v hv => ?_) hlen fun h' tk t' k => ⟨.int ns.sum, H, I.kept k, ⟨t', rfl⟩, q⟩
  have hi : i < ns.length := by
    rw [← hlen]
    exact (List.getElem?_eq_some_iff.mp hv).1
  have hx : (ns.map V.int)[i]? = some (.int (ns.getD i 0)) := by simp [hi]
  obtain ⟨u, hu, tk, ru⟩ := rv.get hx
  exact ⟨tk, (Option.some.inj (hv.symm.trans hu)).trans ru⟩
end Cb

/-! own heaps: what is owned, what stays -/
namespace Cb
open PySem PySem.Spec PyProof.Rows L2
theorem same_new {H H1 : Hp} {p : Addr} {o : HO} (e : Same H H1) (h : H1 p = none) : Same H (upd H1 p o) := fun b u q => by
  have z := e b u q
  rw [upd_ne (ne_of_none z h)]
  exact z
theorem same_mut {H H1 : Hp} {p : Addr} {o : HO} (e : Same H H1) (h : H p = none) : Same H (upd H1 p o) := fun b u q => by
  rw [upd_ne (ne_of_none q h)]
  exact e b u q
theorem Same.rd {H H' : Hp} {a : Addr} {u : HO} (e : Same H H') (h : Rd H a u) : Rd H' a u := h.elim (fun h => .inl (e _ _ h)) fun ⟨o, h⟩ => .inr ⟨o, e _ _ h⟩
theorem Same.tup {K : PySem.W.Frag} {H H' : Hp} {a : Addr} {xs : List V} (e : Same H H') (h : SqT K H a xs) : SqT K H' a xs := h.elim (fun h => .inl (Same.rd e h)) .inr
theorem t_of {K : PySem.W.Frag} {H : Hp} {a : Addr} {xs : List V} (h : H a = some (.tup xs)) : SqT K H a xs := .inl (.inl h)
theorem l_of {K : PySem.W.Frag} {H : Hp} {a : Addr} {xs : List V} (h : H a = some (.lst xs)) : SqL K H a xs := .inl (.inl h)
theorem sqt_inj {K : PySem.W.Frag} {H : Hp} {a : Addr} {xs ys : List V} (h : H a = some (.tup xs)) (h' : H a = some (.tup ys)) : xs = ys := by
  rw [h] at h'
  injection h' with e
  injection e

/-! ### isinstance by type names -/
def rIs (K : PySem.W.Frag) : List V → Hp → VK → Prop := fun xs H Q => ∃ (x : V) (b a : String) (r : Bool), xs = [x, .ty b] ∧ TyX K H x (.type a) ∧ kitB a b = some r ∧ Q (.bl r) H
theorem call_is {X : Cx} : CallR X (.builtin "isinstance") (rIs X.K) := by
  intro pins s σ H xs us Q I r h
  obtain ⟨x, b, a, z, rfl, ty, e, q⟩ := h
  exact call_isi pins s σ H _ us Q I r ⟨x, .ty b, .type a, .type b, z, rfl, .ty b, ty, kit_ty e, q⟩
section
variable {K : PySem.W.Frag} {H : Hp}
theorem ty_int {i : Int} : TyX K H (.int i) (.type "int") := .base (.int i)
theorem ty_str {x : Str} : TyX K H (.str x) (.type "str") := .base (.str x)
theorem ty_tup {a : Addr} {xs : List V} (h : SqT K H a xs) : TyX K H (.ref a) (.type "tuple") := by
  rcases h with (h | ⟨o, h⟩) | ⟨o, _, _, e, c, _⟩
  · exact .base (.tup h)
  · exact .fTuple h
  · exact .kTuple e c
theorem kb1 : kitB "int" "int" = some true := by decide +kernel
theorem kb2 : kitB "int" "bool" = some false := by decide +kernel
theorem kb3 : kitB "str" "str" = some true := by decide +kernel
theorem kb4 : kitB "tuple" "tuple" = some true := by decide +kernel
theorem kb5 : kitB "str" "int" = some false := by decide +kernel
end

/-! ### owned cells over what stays -/
def Cells (H : Hp) : List (Addr × HO) → Prop
  | [] => True
  | e :: r => H e.1 = some e.2 ∧ Cells H r
def adrs (L : List (Addr × HO)) : List Addr := L.map (·.1)
/-- K0: what stays as it is; L: what is owned, and may change -/
structure Sep (K0 H : Hp) (L : List (Addr × HO)) : Prop where
  ext : Same K0 H
  nd : (adrs L).Nodup
  fr : ∀ a ∈ adrs L, K0 a = none
  cs : Cells H L
theorem Cells.mem {H : Hp} : ∀ {L : List (Addr × HO)}, Cells H L → ∀ e ∈ L, H e.1 = some e.2
  | _ :: _, c, e, m => by
    rcases List.mem_cons.mp m with z | z
    · exact z ▸ c.1
    · exact Cells.mem c.2 e z
theorem Cells.of {H : Hp} : ∀ {L : List (Addr × HO)}, (∀ e ∈ L, H e.1 = some e.2) → Cells H L
  | [], _ => True.intro
  | e :: _, h => ⟨h e List.mem_cons_self, Cells.of fun x m => h x (List.mem_cons_of_mem _ m)⟩
theorem Sep.nil {H : Hp} : Sep H H [] := ⟨Same.refl H, List.nodup_nil, (fun _ m => nomatch m), True.intro⟩
theorem Sep.at_ {K0 H : Hp} {L : List (Addr × HO)} (s : Sep K0 H L) {a : Addr} {o : HO} (m : (a, o) ∈ L) : H a = some o := s.cs.mem _ m
/-- a store at an owned cell -/
theorem Sep.put {K0 H : Hp} {L1 L2 : List (Addr × HO)} {a : Addr} {o o' : HO} (s : Sep K0 H (L1 ++ (a, o) :: L2)) : Sep K0 (upd H a o') (L1 ++ (a, o') :: L2) := by
  have ea : adrs (L1 ++ (a, o') :: L2) = adrs (L1 ++ (a, o) :: L2) := by simp [adrs]
  have ha : K0 a = none := s.fr a (by simp [adrs])
  refine ⟨same_mut s.ext ha, ea ▸ s.nd, ea ▸ s.fr, Cells.of fun e m => ?_⟩
  have nd : (adrs (L1 ++ (a, o) :: L2)).Nodup := s.nd
  simp only [adrs, List.map_append, List.map_cons, List.nodup_append, List.nodup_cons] at nd
  rcases List.mem_append.mp m with z | z
  · have ne : e.1 ≠ a := nd.2.2 e.1 (List.mem_map_of_mem z) a List.mem_cons_self
    rw [upd_ne ne]
    exact s.cs.mem e (List.mem_append_left _ z)
  · rcases List.mem_cons.mp z with z | z
    · subst z
      exact upd_same
    · have ne : e.1 ≠ a := fun q => nd.2.1.1 (q ▸ List.mem_map_of_mem z)
      rw [upd_ne ne]
      exact s.cs.mem e (List.mem_append_right _ (List.mem_cons_of_mem _ z))
theorem Sep.free {K0 H : Hp} {L : List (Addr × HO)} (s : Sep K0 H L) {p : Addr} (h : H p = none) : K0 p = none ∧ p ∉ adrs L := by
  refine ⟨Same.free s.ext h, fun m => ?_⟩
  obtain ⟨e, me, rfl⟩ := List.mem_map.mp m
  rw [s.cs.mem e me] at h
  cases h
theorem Sep.cells_new {K0 H : Hp} {L : List (Addr × HO)} (s : Sep K0 H L) {p : Addr} {o : HO} (h : H p = none) : Cells (upd H p o) L := by
  refine Cells.of fun e m => ?_
  rw [upd_ne (ne_of_none (s.cs.mem e m) h)]
  exact s.cs.mem e m
/-- a new thing that nobody asks for -/
theorem Sep.drop {K0 H : Hp} {L : List (Addr × HO)} (s : Sep K0 H L) {p : Addr} {o : HO} (h : H p = none) : Sep K0 (upd H p o) L := ⟨same_new s.ext h, s.nd, s.fr, s.cells_new h⟩
/-- .. that stays as it is -/
theorem Sep.keep {K0 H : Hp} {L : List (Addr × HO)} (s : Sep K0 H L) {p : Addr} {o : HO} (h : H p = none) : Sep (upd K0 p o) (upd H p o) L := by
  obtain ⟨h0, hm⟩ := s.free h
  refine ⟨fun b u q => ?_, s.nd, fun a ma => ?_, s.cells_new h⟩
  · by_cases e : b = p
    · subst e
      rw [upd_same] at q ⊢
      exact q
    · rw [upd_ne e] at q ⊢
      exact s.ext b u q
  · have ne : a ≠ p := fun q => hm (q ▸ ma)
    rw [upd_ne ne]
    exact s.fr a ma
/-- .. that is owned -/
theorem Sep.own {K0 H : Hp} {L : List (Addr × HO)} (s : Sep K0 H L) {p : Addr} {o : HO} (h : H p = none) : Sep K0 (upd H p o) ((p, o) :: L) := by
  obtain ⟨h0, hm⟩ := s.free h
  refine ⟨same_new s.ext h, List.nodup_cons.mpr ⟨hm, s.nd⟩, fun a ma => ?_, upd_same, s.cells_new h⟩
  rcases List.mem_cons.mp ma with z | z
  · exact z ▸ h0
  · exact s.fr a z
theorem Sep.perm {K0 H : Hp} {L M : List (Addr × HO)} (s : Sep K0 H L) (p : M.Perm L) : Sep K0 H M :=
  ⟨s.ext, (List.Perm.nodup_iff (p.map (Prod.fst : Addr × HO → Addr))).mpr s.nd, fun a m => s.fr a ((p.map (Prod.fst : Addr × HO → Addr)).mem_iff.mp m), Cells.of fun e m => s.cs.mem e (p.mem_iff.mp m)⟩
theorem Sep.weak {K0 H : Hp} {L M : List (Addr × HO)} (s : Sep K0 H (L ++ M)) : Sep K0 H L :=
  ⟨s.ext, (List.nodup_append.mp (by have z := s.nd; unfold adrs at z; rw [List.map_append] at z; exact z)).1, fun a m => s.fr a (by unfold adrs at m ⊢; rw [List.map_append]; exact List.mem_append_left _ m), Cells.of fun e m => s.cs.mem e (List.mem_append_left _ m)⟩
/-- all but the owned -/
noncomputable def less (H : Hp) (L : List (Addr × HO)) : Hp := fun a => if a ∈ adrs L then none else H a
theorem less_in {H : Hp} {L : List (Addr × HO)} {a : Addr} (m : a ∈ adrs L) : less H L a = none := if_pos m
theorem less_out {H : Hp} {L : List (Addr × HO)} {a : Addr} (m : a ∉ adrs L) : less H L a = H a := if_neg m
theorem Sep.rebase {K0 H : Hp} {L : List (Addr × HO)} (s : Sep K0 H L) : Sep (less H L) H L ∧ Same K0 (less H L) := by
  refine ⟨⟨fun b o q => ?_, s.nd, fun a m => less_in m, s.cs⟩, fun b o q => ?_⟩
  · by_cases m : b ∈ adrs L
    · rw [less_in m] at q
      cases q
    · rwa [less_out m] at q
  · rw [less_out fun m => by rw [s.fr b m] at q; cases q]
    exact s.ext b o q
/-- a part of what is owned, handed to a callee; what it hands back -/
theorem Sep.part {K0 H : Hp} {L M : List (Addr × HO)} (s : Sep K0 H (L ++ M)) : Sep (less H L) H L ∧ Same K0 (less H L) := s.weak.rebase
theorem Sep.back {K0 H H' K1 : Hp} {L M L2 : List (Addr × HO)} (s : Sep K0 H (L ++ M)) (g : Same (less H L) K1) (t : Sep K1 H' L2) : Sep K0 H' (L2 ++ M) := by
  have nd : (adrs L ++ adrs M).Nodup := by
    have z := s.nd
    unfold adrs at z ⊢
    rw [List.map_append] at z
    exact z
  obtain ⟨n1, n2, n3⟩ := List.nodup_append.mp nd
  have keepM : ∀ e ∈ M, K1 e.1 = some e.2 := fun e m => by
    refine g _ _ ?_
    rw [less_out fun q => n3 _ q _ (List.mem_map_of_mem m) rfl]
    exact s.cs.mem e (List.mem_append_right _ m)
  have ext : Same K0 K1 := fun b o q => g b o (s.part.2 b o q)
  refine ⟨fun b o q => t.ext b o (ext b o q), ?_, fun a m => ?_, Cells.of fun e m => ?_⟩
  · unfold adrs
    rw [List.map_append]
    refine List.nodup_append.mpr ⟨t.nd, n2, fun a ma b mb q => ?_⟩
    subst q
    obtain ⟨e, me, rfl⟩ := List.mem_map.mp mb
    have z := t.fr _ ma
    rw [keepM e me] at z
    cases z
  · unfold adrs at m
    rw [List.map_append] at m
    rcases List.mem_append.mp m with z | z
    · have h1 := t.fr a z
      cases q : K0 a with
      | none => rfl
      | some o =>
        rw [ext a o q] at h1
        cases h1
    · exact s.fr a (by unfold adrs; rw [List.map_append]; exact List.mem_append_right _ z)
  · rcases List.mem_append.mp m with z | z
    · exact t.cs.mem e z
    · exact t.ext _ _ (keepM e z)
end Cb

/-! generic lemmas: pairs of lists, what is owned -/
namespace Cb
open PySem PySem.Spec PyProof.Rows L2
theorem pget {α β : Type} {F : α → β → Prop} : ∀ {l₁ : List α} {l₂ : List β}, Paired F l₁ l₂ → ∀ {i : Nat} {a : α}, l₁[i]? = some a → ∃ b, l₂[i]? = some b ∧ F a b
  | _, _, .nil, i, a, h => by simp at h
  | _, _, .cons f p, 0, a, h => ⟨_, rfl, by simp at h; exact h ▸ f⟩
  | _, _, .cons f p, i + 1, a, h => by
    simp at h
    simpa using pget p h
theorem pgetr {α β : Type} {F : α → β → Prop} : ∀ {l₁ : List α} {l₂ : List β}, Paired F l₁ l₂ → ∀ {i : Nat} {b : β}, l₂[i]? = some b → ∃ a, l₁[i]? = some a ∧ F a b
  | _, _, .nil, i, a, h => by simp at h
  | _, _, .cons f p, 0, a, h => ⟨_, rfl, by simp at h; exact h ▸ f⟩
  | _, _, .cons f p, i + 1, a, h => by
    simp at h
    simpa using pgetr p h
theorem take_snoc {α : Type} {l : List α} {i : Nat} {x : α} (h : l[i]? = some x) : l.take (i + 1) = l.take i ++ [x] := by
  rw [List.take_add_one, h]
  rfl
theorem nodup_take {α : Type} {l : List α} (h : l.Nodup) {i : Nat} {x : α} (hx : l[i]? = some x) : x ∉ l.take i := by
  intro m
  obtain ⟨j, hj, e⟩ := List.mem_iff_getElem.mp m
  have hj2 : j < i := by simp at hj; omega
  have hi : i < l.length := by
    rcases Nat.lt_or_ge i l.length with z | z
    · exact z
    · rw [List.getElem?_eq_none z] at hx; cases hx
  rw [List.getElem?_eq_getElem hi] at hx
  have e1 : l[j]'(by omega) = l[i] := by
    rw [List.getElem_take] at e
    exact e.trans (Option.some.inj hx).symm
  exact absurd ((List.getElem_inj h).mp e1) (by omega)
theorem Sep.c0 {K0 H : Hp} {L : List (Addr × HO)} {a : Addr} {o : HO} (s : Sep K0 H ((a, o) :: L)) : H a = some o := s.cs.1
theorem Sep.c1 {K0 H : Hp} {L : List (Addr × HO)} {a : Addr} {o : HO} {e1 : Addr × HO} (s : Sep K0 H (e1 :: (a, o) :: L)) : H a = some o := s.cs.2.1
theorem Sep.tail {K0 H : Hp} {L : List (Addr × HO)} {e : Addr × HO} (s : Sep K0 H (e :: L)) : Sep K0 H L := ⟨s.ext, (List.nodup_cons.mp s.nd).2, fun a m => s.fr a (List.mem_cons_of_mem _ m), s.cs.2⟩
theorem Sep.put0 {K0 H : Hp} {L : List (Addr × HO)} {a : Addr} {o o' : HO} (s : Sep K0 H ((a, o) :: L)) : Sep K0 (upd H a o') ((a, o') :: L) := Sep.put (L1 := []) s
theorem Sep.freeze {K0 H : Hp} {L : List (Addr × HO)} {a : Addr} {o : HO} (s : Sep K0 H ((a, o) :: L)) : Sep (upd K0 a o) H L := by
  have ha : K0 a = none := s.fr a List.mem_cons_self
  have n := List.nodup_cons.mp s.nd
  refine ⟨fun b u q => ?_, n.2, fun b m => ?_, s.cs.2⟩
  · by_cases e : b = a
    · subst e
      rw [upd_same] at q
      exact (Option.some.inj q) ▸ s.cs.1
    · rw [upd_ne e] at q
      exact s.ext b u q
  · have ne : b ≠ a := fun q => n.1 (q ▸ m)
    rw [upd_ne ne]
    exact s.fr b (List.mem_cons_of_mem _ m)
theorem Sep.new0 {K0 H : Hp} {L : List (Addr × HO)} {a : Addr} {o : HO} (s : Sep K0 H ((a, o) :: L)) : Same K0 (upd K0 a o) := same_new (Same.refl K0) (s.fr a List.mem_cons_self)
theorem Sep.newk {K0 H : Hp} {L : List (Addr × HO)} (s : Sep K0 H L) {p : Addr} {o : HO} (h : H p = none) : Same K0 (upd K0 p o) := same_new (Same.refl K0) (s.free h).1
theorem Same.tr {A B C : Hp} (h : Same A B) (g : Same B C) : Same A C := fun b o z => g b o (h b o z)
theorem Sep.grow {K0 H H1 : Hp} {L : List (Addr × HO)} (s : Sep K0 H L) (g : Same H H1) : Sep K0 H1 L := ⟨Same.tr s.ext g, s.nd, s.fr, Cells.of fun e m => g _ _ (s.cs.mem e m)⟩
theorem Sep.swap {K0 H : Hp} {L : List (Addr × HO)} {e f : Addr × HO} (s : Sep K0 H (e :: f :: L)) : Sep K0 H (f :: e :: L) := s.perm (List.Perm.swap _ _ _)
theorem Sep.own' {K0 H H' : Hp} {L : List (Addr × HO)} (s : Sep K0 H L) (g : Same H H') {p : Addr} {o : HO} (h : H p = none) (h' : H' p = some o) : Sep K0 H' ((p, o) :: L) := by
  obtain ⟨h0, hm⟩ := s.free h
  refine ⟨Same.tr s.ext g, List.nodup_cons.mpr ⟨hm, s.nd⟩, fun a ma => ?_, h', (s.grow g).cs⟩
  rcases List.mem_cons.mp ma with z | z
  · exact z ▸ h0
  · exact s.fr a z
theorem atIm {v : V} {l : List V} : atI (l ++ [v]) (-1) = some v := by
  unfold atI ixN
  rw [if_neg (by decide), if_pos (by simp; omega)]
  simp
  rw [show (-1 + ((l.length : Int) + 1)).toNat = l.length by omega]
  simp
theorem atIn {α : Type} {l : List α} {n : Nat} {v : α} (h : l[n]? = some v) : atI l (n : Nat) = some v := by
  have hn : n < l.length := by
    rcases Nat.lt_or_ge n l.length with z | z
    · exact z
    · rw [List.getElem?_eq_none z] at h; cases h
  unfold atI ixN
  rw [if_pos (by omega), if_pos (by omega)]
  simpa using h
theorem psnoc {α β : Type} {F : α → β → Prop} {m : List β} {b : β} : ∀ {l : List α}, Paired F l (m ++ [b]) → ∃ l' a, l = l' ++ [a] ∧ Paired F l' m ∧ F a b := by
  induction m with
  | nil =>
    intro l h
    cases h with
    | cons f p => cases p with
      | nil => exact ⟨[], _, rfl, .nil, f⟩
  | cons c m ih =>
    intro l h
    cases h with
    | cons f p =>
      obtain ⟨l', a, rfl, p', f'⟩ := ih p
      exact ⟨_ :: l', a, rfl, .cons f p', f'⟩
theorem Same.lst {K : PySem.W.Frag} {H H' : Hp} {a : Addr} {xs : List V} (e : Same H H') (h : SqL K H a xs) : SqL K H' a xs := h.elim (fun h => .inl (Same.rd e h)) .inr
section
variable {K0 H : Hp} {L : List (Addr × HO)} {a1 a2 a3 a4 a5 : Addr × HO} {a : Addr} {x y : HO}
theorem Sep.c2 (s : Sep K0 H (a1 :: a2 :: (a, x) :: L)) : H a = some x := s.cs.2.2.1
theorem Sep.c3 (s : Sep K0 H (a1 :: a2 :: a3 :: (a, x) :: L)) : H a = some x := s.cs.2.2.2.1
theorem Sep.c4 (s : Sep K0 H (a1 :: a2 :: a3 :: a4 :: (a, x) :: L)) : H a = some x := s.cs.2.2.2.2.1
theorem Sep.c5 (s : Sep K0 H (a1 :: a2 :: a3 :: a4 :: a5 :: (a, x) :: L)) : H a = some x := s.cs.2.2.2.2.2.1
theorem Sep.put1 (s : Sep K0 H (a1 :: (a, x) :: L)) : Sep K0 (upd H a y) (a1 :: (a, y) :: L) := Sep.put (L1 := [a1]) s
theorem Sep.put2 (s : Sep K0 H (a1 :: a2 :: (a, x) :: L)) : Sep K0 (upd H a y) (a1 :: a2 :: (a, y) :: L) := Sep.put (L1 := [a1, a2]) s
theorem Sep.put3 (s : Sep K0 H (a1 :: a2 :: a3 :: (a, x) :: L)) : Sep K0 (upd H a y) (a1 :: a2 :: a3 :: (a, y) :: L) := Sep.put (L1 := [a1, a2, a3]) s
theorem Sep.put4 (s : Sep K0 H (a1 :: a2 :: a3 :: a4 :: (a, x) :: L)) : Sep K0 (upd H a y) (a1 :: a2 :: a3 :: a4 :: (a, y) :: L) := Sep.put (L1 := [a1, a2, a3, a4]) s
theorem Sep.put5 (s : Sep K0 H (a1 :: a2 :: a3 :: a4 :: a5 :: (a, x) :: L)) : Sep K0 (upd H a y) (a1 :: a2 :: a3 :: a4 :: a5 :: (a, y) :: L) := Sep.put (L1 := [a1, a2, a3, a4, a5]) s
end
theorem Sep.up2 {K0 H : Hp} {L : List (Addr × HO)} {a1 a2 e : Addr × HO} (s : Sep K0 H (a1 :: a2 :: e :: L)) : Sep K0 H (e :: a1 :: a2 :: L) := s.perm (List.perm_middle (l₁ := [a1, a2])).symm
theorem small8 {n : Nat} (h : n ≤ 8) : n ≤ sizeLine := Nat.le_trans h (by decide)
theorem sm {n m : Nat} (h : n ≤ m) (h2 : m ≤ sizeLine := by decide) : n ≤ sizeLine := Nat.le_trans h h2
theorem hu64_of {k : Nat} {A : Around} (h : Room k A) : A.units + 64 < cLine := by
  have := h.un
  omega
theorem pmap {α β γ : Type} {F : γ → β → Prop} {f : α → γ} {g : α → β} : ∀ {l : List α}, (∀ a ∈ l, F (f a) (g a)) → Paired F (l.map f) (l.map g)
  | [], _ => .nil
  | a :: l, h => .cons (h a List.mem_cons_self) (pmap fun b m => h b (List.mem_cons_of_mem _ m))
theorem papp {α β : Type} {F : α → β → Prop} {l2 : List α} {m2 : List β} (h2 : Paired F l2 m2) : ∀ {l1 : List α} {m1 : List β}, Paired F l1 m1 → Paired F (l1 ++ l2) (m1 ++ m2)
  | _, _, .nil => h2
  | _, _, .cons a p => .cons a (papp h2 p)
theorem psnoc' {α β : Type} {F : α → β → Prop} {l : List α} {m : List β} {a : α} {b : β} (h : Paired F l m) (f : F a b) : Paired F (l ++ [a]) (m ++ [b]) := papp (.cons f .nil) h
theorem ptake {α β : Type} {F : α → β → Prop} : ∀ {l : List α} {m : List β}, Paired F l m → ∀ i, Paired F (l.take i) (m.take i)
  | _, _, .nil, i => by simp; exact .nil
  | _, _, .cons a p, 0 => .nil
  | _, _, .cons a p, i + 1 => .cons a (ptake p i)
theorem prev {α β : Type} {F : α → β → Prop} : ∀ {l : List α} {m : List β}, Paired F l m → Paired F l.reverse m.reverse
  | _, _, .nil => .nil
  | _, _, .cons a p => by
    rw [List.reverse_cons, List.reverse_cons]
    exact psnoc' (prev p) a
theorem lookup_mapk {f : Str × NameKind → Str × NameKind} (h1 : ∀ p, (f p).1 = p.1) (h2 : ∀ p : Str × NameKind, (p.2 = .cell ∨ p.2 = .free) → ((f p).2 = .cell ∨ (f p).2 = .free)) : ∀ {names : List (Str × NameKind)} {x : Str}, (names.lookup x = some .cell ∨ names.lookup x = some .free) → ((names.map f).lookup x = some .cell ∨ (names.map f).lookup x = some .free)
  | [], _, h => by simp at h
  | p :: r, x, h => by
    have ih := lookup_mapk h1 h2 (names := r) (x := x)
    rw [List.map_cons]
    obtain ⟨n, k⟩ := p
    generalize hf : f (n, k) = q
    obtain ⟨n', k'⟩ := q
    have e1 : n' = n := by
      have z := h1 (n, k)
      rw [hf] at z
      exact z
    have e2 : (k = .cell ∨ k = .free) → (k' = .cell ∨ k' = .free) := fun z => by
      have y := h2 (n, k) z
      rw [hf] at y
      exact y
    subst e1
    rw [List.lookup_cons]
    rw [List.lookup_cons] at h
    cases hx : x == n' with
    | true =>
      rw [hx] at h
      simp only [Option.some.injEq] at h ⊢
      exact e2 h
    | false =>
      rw [hx] at h
      exact ih h
/-- a comprehension within one: its block is well-formed in the relabelled scope, too -/
theorem blkOk_rel {N : List Str} {sc scope : Scope} {own : List (Str × Nat)} {env : Env} (h : blkC N sc scope own = true) : BlkOk N (relabel sc env) scope own := by
  have b := blkOk_by h
  refine ⟨b.kind, b.uniq, b.ix, fun y hy e => ?_, b.own⟩
  refine lookup_mapk (f := fun p => if (p.2 == NameKind.free && env.scope.kind == .function && env.kindOf p.1 == some .cell) then (p.1, NameKind.cell) else (p.1, p.2)) (fun p => ?_) (fun p hp => ?_) (b.free y hy e)
  · split <;> rfl
  · split
    · exact .inl rfl
    · exact hp
end Cb

/-! set-ups with steps of all kinds, boards and processors: plain mirrors of what they hold, and what each deed makes of it -/
namespace Cb
open PySem PySem.Spec PyProof.Rows L2
abbrev aC (x : Str) (K : PySem.W.Frag) : Addr := He.ga K x
def letters (x : Str) : Bool := Txt.isascii x && (Txt.isalpha x && Txt.islower x)
def nameOk (x : Str) : Prop := x.length ≤ 8 ∧ letters x = true
def kindS (b : Bool) : Str := if b then "level" else "edge"
inductive SD where
  | run (n : Int)
  | ring (l : Str)
  | quiet (l : Str)
  | mask (l : Str)
  | unmask (l : Str)
  | setf (f : Nat)
  | clearf (f : Nat)
  | await (f : Nat)
  | bar (b : Int)
  | later (w : Str)
def SD.word : SD → Str
  | run _ => "run"
  | ring _ => "ring"
  | quiet _ => "quiet"
  | mask _ => "mask"
  | unmask _ => "unmask"
  | setf _ => "set"
  | clearf _ => "clear"
  | await _ => "await"
  | bar _ => "bar"
  | later _ => "later"
def SD.arg : SD → V
  | run n => .int n
  | ring l => .str l
  | quiet l => .str l
  | mask l => .str l
  | unmask l => .str l
  | setf f => .int (f : Nat)
  | clearf f => .int (f : Nat)
  | await f => .int (f : Nat)
  | bar b => .int b
  | later w => .str w
/-- a line at v: its name, level or edge, rank, steps -/
structure LineD where
  name : Str
  lvl : Bool
  rank : Int
  steps : List SD
structure WorkD where
  name : Str
  rank : Int
  ticks : Int
def StepOk (ls : List LineD) (ws : List WorkD) : SD → Prop
  | .run n => 1 ≤ n ∧ n ≤ 99
  | .ring l => ∃ x ∈ ls, x.name = l
  | .quiet l => ∃ x ∈ ls, x.name = l ∧ x.lvl = true
  | .mask l => ∃ x ∈ ls, x.name = l
  | .unmask l => ∃ x ∈ ls, x.name = l
  | .setf f => f ≤ 7
  | .clearf f => f ≤ 7
  | .await f => f ≤ 7
  | .bar b => 0 ≤ b ∧ b ≤ 9
  | .later w => ∃ x ∈ ws, x.name = w
def StepAt (K : PySem.W.Frag) (H : Hp) (v : V) (s : SD) : Prop := ∃ a, v = .ref a ∧ SqT K H a [.str s.word, s.arg]
def LineAt (K : PySem.W.Frag) (H : Hp) (v : V) (l : LineD) : Prop := ∃ a h hs, v = .ref a ∧ SqT K H a [.str l.name, .str (kindS l.lvl), .int l.rank, .ref h] ∧ SqT K H h hs ∧ Paired (StepAt K H) hs l.steps
def WorkAt (K : PySem.W.Frag) (H : Hp) (v : V) (w : WorkD) : Prop := ∃ a, v = .ref a ∧ SqT K H a [.str w.name, .int w.rank, .int w.ticks]
structure LineOk (l : LineD) : Prop where
  nm : nameOk l.name
  r1 : 1 ≤ l.rank
  r9 : l.rank ≤ 9
  s1 : 1 ≤ l.steps.length
  s8 : l.steps.length ≤ 8
structure WorkOk (w : WorkD) : Prop where
  nm : nameOk w.name
  r1 : 1 ≤ w.rank
  r9 : w.rank ≤ 9
  t1 : 1 ≤ w.ticks
  t99 : w.ticks ≤ 99
theorem StepAt.up {K : PySem.W.Frag} {H H' : Hp} {v : V} {s : SD} (e : Same H H') (h : StepAt K H v s) : StepAt K H' v s := h.elim fun a h => ⟨a, h.1, Same.tup e h.2⟩
theorem LineAt.up {K : PySem.W.Frag} {H H' : Hp} {v : V} {s : LineD} (e : Same H H') (h : LineAt K H v s) : LineAt K H' v s := by
  obtain ⟨a, g, hs, rfl, h1, h2, h3⟩ := h
  exact ⟨a, g, hs, rfl, Same.tup e h1, Same.tup e h2, h3.mono fun _ _ z => StepAt.up e z⟩
theorem WorkAt.up {K : PySem.W.Frag} {H H' : Hp} {v : V} {s : WorkD} (e : Same H H') (h : WorkAt K H v s) : WorkAt K H' v s := h.elim fun a h => ⟨a, h.1, Same.tup e h.2⟩
structure LinesAt (K : PySem.W.Frag) (H : Hp) (a : Addr) (ls : List LineD) : Prop where
  ex : ∃ xs, SqT K H a xs ∧ Paired (LineAt K H) xs ls
structure WorksAt (K : PySem.W.Frag) (H : Hp) (a : Addr) (ls : List WorkD) : Prop where
  ex : ∃ xs, SqT K H a xs ∧ Paired (WorkAt K H) xs ls
theorem LinesAt.up {K : PySem.W.Frag} {H H' : Hp} {a : Addr} {s : List LineD} (e : Same H H') (h : LinesAt K H a s) : LinesAt K H' a s := h.ex.elim fun xs h => ⟨xs, Same.tup e h.1, h.2.mono fun _ _ z => LineAt.up e z⟩
theorem WorksAt.up {K : PySem.W.Frag} {H H' : Hp} {a : Addr} {s : List WorkD} (e : Same H H') (h : WorksAt K H a s) : WorksAt K H' a s := h.ex.elim fun xs h => ⟨xs, Same.tup e h.1, h.2.mono fun _ _ z => WorkAt.up e z⟩
structure LsOk (ls : List LineD) : Prop where
  ok : ∀ l ∈ ls, LineOk l
  nd : (ls.map (·.name)).Nodup
  ne : ls ≠ []
  le : ls.length ≤ 12
structure WsOk (ls : List WorkD) : Prop where
  ok : ∀ l ∈ ls, WorkOk l
  nd : (ls.map (·.name)).Nodup
  le : ls.length ≤ 8
def AllOk (ls : List LineD) (ws : List WorkD) : Prop := ∀ l ∈ ls, ∀ s ∈ l.steps, StepOk ls ws s
theorem putK_le (kvs : List (Key × V)) (k : Key) (v : V) : (putK kvs k v).length ≤ kvs.length + 1 := by
  unfold putK
  split <;> simp
theorem sml {n m : Nat} (h : n ≤ m) (hm : m < 4096) : n < sizeLine := Nat.lt_of_lt_of_le (Nat.lt_of_le_of_lt h hm) (by decide)
theorem andT {a b : Bool} (h1 : a = true) (h2 : b = true) : (a && b) = true := by rw [h1, h2]; rfl
theorem putK_new {kvs : List (Key × V)} {k : Key} {v : V} (h : ∀ e ∈ kvs, e.1 ≠ k) : putK kvs k v = kvs ++ [(k, v)] := by
  unfold putK
  rw [if_neg]
  simp only [List.any_eq_true, decide_eq_true_eq, not_exists, not_and]
  exact fun e m => h e m
def keyOf (K' : Hp) : V → Int × Str
  | .ref t => match K' t with
    | some (.tup [.int i, .str s]) => (i, s)
    | _ => (0, "")
  | _ => (0, "")
theorem keyOf_at {K' : Hp} {t : Addr} {i : Int} {s : Str} (h : K' t = some (.tup [.int i, .str s])) : keyOf K' (.ref t) = (i, s) := by
  unfold keyOf
  simp [h]
def RankAt (K' : Hp) (v : V) (l : LineD) : Prop := ∃ t, v = .ref t ∧ K' t = some (.tup [.int (-l.rank), .str l.name])
theorem ranked_names {K' : Hp} : ∀ {acc : List V} {ls : List LineD}, Paired (RankAt K') acc ls → acc.map (fun v => (keyOf K' v).2) = ls.map (·.name)
  | _, _, .nil => rfl
  | _, _, .cons ⟨t, e, h⟩ p => by
    subst e
    rw [List.map_cons, List.map_cons, ranked_names p, keyOf_at h]
theorem ranked_mem {K' : Hp} {acc : List V} {ls : List LineD} (p : Paired (RankAt K') acc ls) {v : V} (m : v ∈ acc) : ∃ t i s, v = .ref t ∧ K' t = some (.tup [.int i, .str s]) ∧ keyOf K' v = (i, s) := by
  obtain ⟨i, hi⟩ := List.mem_iff_getElem?.mp m
  obtain ⟨l, _, t, rfl, h⟩ := pget p hi
  exact ⟨t, _, _, rfl, h, keyOf_at h⟩
structure SetD where
  ls : List LineD
  ws : List WorkD
  order : List Str
structure SetOk (S : SetD) : Prop where
  ok : LsOk S.ls
  okw : WsOk S.ws
  all : AllOk S.ls S.ws
  perm : S.order.Perm (S.ls.map (·.name))
  srt : S.order.Pairwise fun a b => ∀ la ∈ S.ls, ∀ lb ∈ S.ls, la.name = a → lb.name = b → lexIS (-lb.rank, lb.name) (-la.rank, la.name) = false
def byN (ls : List LineD) (xs : List V) : List (Key × V) := (ls.zip xs).map fun p => (.inr p.1.name, p.2)
theorem byN_at : ∀ {ls : List LineD} {xs : List V} {i : Nat} {l : LineD} {v : V}, (ls.map (·.name)).Nodup → ls[i]? = some l → xs[i]? = some v → valV (byN ls xs) (.inr l.name) = some v
  | [], _, i, _, _, _, h, _ => by simp at h
  | _ :: _, [], i, _, _, _, _, h => by simp at h
  | m :: ls, x :: xs, 0, l, v, nd, h, g => by
    simp at h g
    subst h g
    simp [byN, valV]
  | m :: ls, x :: xs, i + 1, l, v, nd, h, g => by
    simp at h g
    have nd2 := List.nodup_cons.mp nd
    have ne : m.name ≠ l.name := fun q => nd2.1 (by show m.name ∈ _; rw [q]; exact List.mem_map_of_mem (List.mem_of_getElem? h))
    have z := byN_at (xs := xs) nd2.2 h g
    unfold byN valV at z ⊢
    rw [List.zip_cons_cons, List.map_cons, List.find?_cons_of_neg (by simp [ne])]
    exact z
theorem byN_no {ls : List LineD} {xs : List V} {n : Str} (h : n ∉ ls.map (·.name)) : valV (byN ls xs) (.inr n) = none := by
  unfold valV byN
  rw [List.find?_eq_none.mpr]
  · rfl
  · intro e m
    obtain ⟨p, hp, rfl⟩ := List.mem_map.mp m
    have hp2 := (List.of_mem_zip hp).1
    simp only [decide_eq_true_eq]
    intro q
    injection q with q
    exact h (q ▸ List.mem_map_of_mem hp2)
theorem byN_snoc {ls : List LineD} {xs : List V} {i : Nat} {l : LineD} {v : V} (nd : (ls.map (·.name)).Nodup) (h : ls[i]? = some l) (g : xs[i]? = some v) : putK (byN (ls.take i) (xs.take i)) (.inr l.name) v = byN (ls.take (i + 1)) (xs.take (i + 1)) := by
  rw [putK_new, take_snoc h, take_snoc g]
  · unfold byN
    have e : (ls.take i).length = (xs.take i).length := by
      have h1 : i < ls.length := by
        rcases Nat.lt_or_ge i ls.length with z | z
        · exact z
        · rw [List.getElem?_eq_none z] at h; cases h
      have h2 : i < xs.length := by
        rcases Nat.lt_or_ge i xs.length with z | z
        · exact z
        · rw [List.getElem?_eq_none z] at g; cases g
      simp; omega
    rw [List.zip_append e]
    simp
  · intro e m q
    obtain ⟨p, hp, rfl⟩ := List.mem_map.mp m
    have hp2 := (List.of_mem_zip hp).1
    injection q with q
    have := nodup_take nd (i := i) (x := l.name) (by simp [h])
    rw [← List.map_take] at this
    exact this (q ▸ List.mem_map_of_mem hp2)
theorem ranked_key {K' : Hp} {acc : List V} {ls : List LineD} (p : Paired (RankAt K') acc ls) {v : V} (m : v ∈ acc) : ∃ l ∈ ls, keyOf K' v = (-l.rank, l.name) := by
  obtain ⟨i, hi⟩ := List.mem_iff_getElem?.mp m
  obtain ⟨l, hl, t, rfl, h⟩ := pget p hi
  exact ⟨l, List.mem_of_getElem? hl, keyOf_at h⟩
theorem nm_inj : ∀ {ls : List LineD}, (ls.map (·.name)).Nodup → ∀ {a b : LineD}, a ∈ ls → b ∈ ls → a.name = b.name → a = b
  | m :: ls, nd, a, b, ha, hb, e => by
    have n2 := List.nodup_cons.mp nd
    rcases List.mem_cons.mp ha with ea | ha
    · rcases List.mem_cons.mp hb with eb | hb
      · rw [ea, eb]
      · exact absurd (show m.name ∈ ls.map (·.name) by rw [← ea, e]; exact List.mem_map_of_mem hb) n2.1
    · rcases List.mem_cons.mp hb with eb | hb
      · exact absurd (show m.name ∈ ls.map (·.name) by rw [← eb, ← e]; exact List.mem_map_of_mem ha) n2.1
      · exact nm_inj n2.2 ha hb e
theorem srt_of {K' : Hp} {acc ys : List V} {ls : List LineD} (nd : (ls.map (·.name)).Nodup) (p : Paired (RankAt K') acc ls) (pm : ys.Perm acc) (sd : ys.Pairwise fun x y => lexIS (keyOf K' y) (keyOf K' x) = false) :
    (ys.map fun v => (keyOf K' v).2).Pairwise fun a b => ∀ la ∈ ls, ∀ lb ∈ ls, la.name = a → lb.name = b → lexIS (-lb.rank, lb.name) (-la.rank, la.name) = false := by
  rw [List.pairwise_map]
  refine sd.imp_of_mem fun {x y} hx hy h la hla lb hlb ea eb => ?_
  obtain ⟨lx, hlx, kx⟩ := ranked_key p (pm.mem_iff.mp hx)
  obtain ⟨ly, hly, ky⟩ := ranked_key p (pm.mem_iff.mp hy)
  rw [kx] at ea h
  rw [ky] at eb h
  have e1 := nm_inj nd hla hlx ea
  have e2 := nm_inj nd hlb hly eb
  subst e1 e2
  exact h
structure SetupAt (K : PySem.W.Frag) (H : Hp) (su : Addr) (S : SetD) : Prop where
  ex : ∃ dx la wa bn oa xs, H su = some (.ins (aC "Setup" K) dx [("_lines", .ref la), ("_works", .ref wa), ("_by_name", .ref bn), ("_order", .ref oa)]) ∧ LinesAt K H la S.ls ∧ WorksAt K H wa S.ws ∧ H bn = some (.dK (byN S.ls xs)) ∧ Paired (LineAt K H) xs S.ls ∧ H oa = some (.tup (S.order.map V.str))
theorem SetupAt.up {K : PySem.W.Frag} {H H' : Hp} {v : Addr} {s : SetD} (e : Same H H') (h : SetupAt K H v s) : SetupAt K H' v s := by
  obtain ⟨dx, la, wa, bn, oa, xs, h1, h2, h3, h4, h5, h6⟩ := h
  exact ⟨dx, la, wa, bn, oa, xs, e _ _ h1, LinesAt.up e h2, WorksAt.up e h3, e _ _ h4, h5.mono fun _ _ z => LineAt.up e z, e _ _ h6⟩
def bd (o : List Str) (f : Str → Bool) : List (Key × V) := o.map fun n => (.inr n, .bl (f n))
def fset (f : Str → Bool) (n : Str) (b : Bool) : Str → Bool := fun m => if m = n then b else f m
theorem bd_at {f : Str → Bool} {n : Str} : ∀ {o : List Str}, n ∈ o → valV (bd o f) (.inr n) = some (.bl (f n))
  | m :: o, h => by
    by_cases e : m = n
    · subst e
      simp [bd, valV]
    · have z := bd_at (f := f) (o := o) ((List.mem_cons.mp h).resolve_left fun q => e q.symm)
      unfold bd valV at z ⊢
      rw [List.map_cons, List.find?_cons_of_neg (by simp [e])]
      exact z
theorem putK_bd {f : Str → Bool} {n : Str} {b : Bool} {o : List Str} (h : n ∈ o) : putK (bd o f) (.inr n) (.bl b) = bd o (fset f n b) := by
  unfold putK
  rw [if_pos]
  · unfold bd fset
    rw [List.map_map]
    refine List.map_congr_left fun m _ => ?_
    by_cases e : m = n
    · subst e; simp
    · have e2 : ¬ (Sum.inr m : Key) = Sum.inr n := fun q => e (by injection q)
      simp [e, e2]
  · exact List.any_eq_true.mpr ⟨_, List.mem_map_of_mem h, by simp⟩
theorem bd_snoc {f : Str → Bool} {o : List Str} (nd : o.Nodup) {i : Nat} {n : Str} (h : o[i]? = some n) : putK (bd (o.take i) f) (.inr n) (.bl (f n)) = bd (o.take (i + 1)) f := by
  rw [take_snoc h, putK_new]
  · simp [bd]
  · intro e m q
    obtain ⟨k, hk, rfl⟩ := List.mem_map.mp m
    injection q with q
    exact nodup_take nd h (q ▸ hk)
def md (o : List Str) (f : Str → Int) : List (Key × V) := o.map fun n => (.inr n, .int (f n))
def nset (f : Str → Int) (n : Str) (b : Int) : Str → Int := fun m => if m = n then b else f m
theorem md_at {f : Str → Int} {n : Str} : ∀ {o : List Str}, n ∈ o → valV (md o f) (.inr n) = some (.int (f n))
  | m :: o, h => by
    by_cases e : m = n
    · subst e
      simp [md, valV]
    · have z := md_at (f := f) (o := o) ((List.mem_cons.mp h).resolve_left fun q => e q.symm)
      unfold md valV at z ⊢
      rw [List.map_cons, List.find?_cons_of_neg (by simp [e])]
      exact z
theorem putK_md {f : Str → Int} {n : Str} {b : Int} {o : List Str} (h : n ∈ o) : putK (md o f) (.inr n) (.int b) = md o (nset f n b) := by
  unfold putK
  rw [if_pos]
  · unfold md nset
    rw [List.map_map]
    refine List.map_congr_left fun m _ => ?_
    by_cases e : m = n
    · subst e; simp
    · have e2 : ¬ (Sum.inr m : Key) = Sum.inr n := fun q => e (by injection q)
      simp [e, e2]
  · exact List.any_eq_true.mpr ⟨_, List.mem_map_of_mem h, by simp⟩
theorem md_snoc {f : Str → Int} {o : List Str} (nd : o.Nodup) {i : Nat} {n : Str} (h : o[i]? = some n) : putK (md (o.take i) f) (.inr n) (.int (f n)) = md (o.take (i + 1)) f := by
  rw [take_snoc h, putK_new]
  · simp [md]
  · intro e m q
    obtain ⟨k, hk, rfl⟩ := List.mem_map.mp m
    injection q with q
    exact nodup_take nd h (q ▸ hk)
theorem SetOk.nd {S : SetD} (h : SetOk S) : S.order.Nodup := h.perm.nodup_iff.mpr h.ok.nd
theorem SetOk.mem {S : SetD} (h : SetOk S) {l : LineD} (m : l ∈ S.ls) : l.name ∈ S.order := h.perm.mem_iff.mpr (List.mem_map_of_mem m)
theorem SetOk.line {S : SetD} (h : SetOk S) {n : Str} (m : n ∈ S.order) : ∃ l ∈ S.ls, l.name = n := List.mem_map.mp (h.perm.mem_iff.mp m)
theorem SetOk.len {S : SetD} (h : SetOk S) : S.order.length ≤ 12 := by
  have z := h.perm.length_eq
  simp at z
  have := h.ok.le
  omega
def no : Str → Bool := fun _ => false
theorem filter_snoc {α : Type} {l : List α} {i : Nat} {x : α} (f : α → Bool) (h : l[i]? = some x) : (l.take (i + 1)).filter f = (l.take i).filter f ++ (if f x = true then [x] else []) := by
  rw [take_snoc h, List.filter_append]
  congr 1
  by_cases e : f x = true <;> simp [e]
def pd (r : Str × Int) : PyData := .tuple [.str r.1, .int r.2]
theorem pd_eq {a b : Str × Int} : PyData.eqv (pd a) (pd b) = decide (a = b) := by
  obtain ⟨a, i⟩ := a
  obtain ⟨b, j⟩ := b
  rw [Bool.eq_iff_iff]
  simp [pd, PyData.eqv, PyData.eqvAll]
theorem sok {x : Str} (h : nameOk x) : PyData.strOk x = true := by
  have z := h.2
  unfold letters at z
  have z1 := (He.ba z).1
  unfold Txt.isascii at z1
  unfold PyData.strOk
  rw [Array.all_eq_true] at z1 ⊢
  intro i hi
  have := z1 i hi
  simp at this ⊢
  omega
theorem pd_lay : ∀ {l : List (Str × Int)}, (∀ r ∈ l, nameOk r.1) → PyData.canLayAll0 (l.map pd) = true
  | [], _ => by simp [PyData.canLayAll0]
  | a :: l, h => by simp [PyData.canLayAll0, pd_lay fun r m => h r (List.mem_cons_of_mem _ m), pd, PyData.canLay0, sok (h a List.mem_cons_self)]
theorem pd_dep : ∀ l : List (Str × Int), PyData.depthAll (l.map pd) ≤ 2
  | [] => by simp [PyData.depthAll]
  | a :: l => by
    have := pd_dep l
    simp [PyData.depthAll, pd, PyData.depth]
    omega
theorem pd_sh {l : List (Str × Int)} (h : ∀ r ∈ l, nameOk r.1) : SeqAt.shaped (.list (l.map pd)) = true := by
  have := pd_dep l
  unfold SeqAt.shaped
  simp [PyData.canLay0, pd_lay h, PyData.depth]
  omega
theorem pd_sh1 {a : Str × Int} (h : nameOk a.1) : SeqAt.shaped (pd a) = true := by
  unfold SeqAt.shaped
  simp [pd, PyData.canLay0, PyData.canLayAll0, PyData.depth, PyData.depthAll, sok h]
def RowAt (K : PySem.W.Frag) (H : Hp) (v : V) (r : Str × Int) : Prop := ∃ t, v = .ref t ∧ SqT K H t [.str r.1, .int r.2]
theorem RowAt.up {K : PySem.W.Frag} {H H' : Hp} {v : V} {r : Str × Int} (e : Same H H') (h : RowAt K H v r) : RowAt K H' v r := h.elim fun a h => ⟨a, h.1, Same.tup e h.2⟩
theorem rows_dp {K : PySem.W.Frag} {H : Hp} : ∀ {rv : List V} {rows : List (Str × Int)}, Paired (RowAt K H) rv rows → DpAll K H rv (rows.map pd)
  | _, _, .nil => .nil
  | _, _, .cons ⟨t, e, h⟩ p => by
    subst e
    exact .cons (.tup h (.cons (.str _) (.cons (.int _) .nil))) (rows_dp p)
def wd (ws : List WorkD) (f : WorkD → Int) : List (Key × V) := ws.map fun w => (.inr w.name, .int (f w))
theorem wd_at {f : WorkD → Int} {l : WorkD} : ∀ {ws : List WorkD}, (ws.map (·.name)).Nodup → l ∈ ws → valV (wd ws f) (.inr l.name) = some (.int (f l))
  | m :: ws, nd, h => by
    have nd2 := List.nodup_cons.mp nd
    rcases List.mem_cons.mp h with e | h
    · subst e
      simp [wd, valV]
    · have ne : m.name ≠ l.name := fun q => nd2.1 (by show m.name ∈ _; rw [q]; exact List.mem_map_of_mem h)
      have z := wd_at (f := f) nd2.2 h
      unfold wd valV at z ⊢
      rw [List.map_cons, List.find?_cons_of_neg (by simp [ne])]
      exact z
theorem wd_snoc {f : WorkD → Int} {ws : List WorkD} (nd : (ws.map (·.name)).Nodup) {i : Nat} {l : WorkD} (h : ws[i]? = some l) : putK (wd (ws.take i) f) (.inr l.name) (.int (f l)) = wd (ws.take (i + 1)) f := by
  rw [take_snoc h, putK_new]
  · simp [wd]
  · intro e m q
    obtain ⟨k, hk, rfl⟩ := List.mem_map.mp m
    injection q with q
    have := nodup_take nd (i := i) (x := l.name) (by simp [h])
    rw [← List.map_take] at this
    exact this (q ▸ List.mem_map_of_mem hk)
theorem pdrop {α β : Type} {F : α → β → Prop} : ∀ {l₁ : List α} {l₂ : List β}, Paired F l₁ l₂ → ∀ n, Paired F (l₁.drop n) (l₂.drop n)
  | _, _, .nil, _ => by simpa using Paired.nil
  | _, _, .cons f p, 0 => .cons f p
  | _, _, .cons f p, n + 1 => pdrop p n
theorem any_pd (rows : List (Str × Int)) (a : Str × Int) : ((rows.map pd).any fun z => PyData.eqv z (pd a)) = decide (a ∈ rows) := by
  rw [Bool.eq_iff_iff, List.any_map]
  simp [pd_eq]
theorem hu65_of {k : Nat} {A : Around} (h : Room k A) : A.units + 65 < cLine := by
  have := h.un
  omega
theorem big63 {n : Nat} (h : n ≤ 4000) : (n : Int) < 2 ^ 63 := by
  have : (2 : Int) ^ 63 = 9223372036854775808 := by decide
  omega
theorem atI0 {v : V} {l : List V} : atI (v :: l) 0 = some v := by simp [atI, ixN]
theorem inV_strs {ws : List Str} {x : Str} (h : x ∈ ws) : inV (.str x) (ws.map V.str) = true := by
  unfold inV
  exact List.any_eq_true.mpr ⟨_, List.mem_map_of_mem h, by simp [eqV]⟩
theorem inV_not {ws : List Str} {x : Str} (h : x ∉ ws) : inV (.str x) (ws.map V.str) = false := by
  unfold inV
  refine List.any_eq_false.mpr fun y m => ?_
  obtain ⟨z, hz, rfl⟩ := List.mem_map.mp m
  simp only [eqV, beq_iff_eq]
  exact fun e => h (e ▸ hz)
theorem ixNm {v : V} {l : List V} : ixN (l ++ [v]).length (-1) = some l.length := by
  unfold ixN
  rw [if_neg (by decide), if_pos (by simp; omega)]
  simp
  omega
theorem set_last {α : Type} (l : List α) (x y : α) : (l ++ [x]).set l.length y = l ++ [y] := by
  rw [List.set_append_right _ _ (Nat.le_refl _)]
  simp
theorem cut2 {a b c d : V} : cutV [a, b, c, d] none (some 2) = [a, b] := by simp [cutV, HT.sIx]
theorem cut3 {a b c d : V} : cutV [a, b, c, d] none (some 3) = [a, b, c] := by simp [cutV, HT.sIx]
theorem pe_nev {X : Cx} {e : Expr} : PE X e (fun _ _ _ => False) := ⟨fun _ _ _ _ _ _ h => h.elim⟩
/-! what a board holds, and a processor -/
structure BdD where
  rung : Str → Bool
  dis : Str → Bool
  und : Str → Bool
  fl : List Bool
  mg : Str → Int
structure CallD where
  line : LineD
  step : Nat
  ticks : Int
  kept : Int
structure PrD where
  bar : Int
  stack : List CallD
  rows : List (Str × Int)
  c0 : Int
  c1 : Int
  c2 : Int
  c3 : Int
inductive Ev where
  | bgn (l : LineD)
  | fin (l : LineD)
  | dne (w : Str)
def Ev.word : Ev → Str
  | bgn _ => "begin"
  | fin _ => "end"
  | dne _ => "done"
def Ev.name : Ev → Str
  | bgn l => l.name
  | fin l => l.name
  | dne w => w
def ringB (b : BdD) (n : Str) : BdD := { b with rung := fset b.rung n true, mg := if b.rung n then nset b.mg n (b.mg n + 1) else b.mg }
def quietB (b : BdD) (n : Str) : BdD := { b with rung := fset b.rung n false }
def maskB (b : BdD) (n : Str) (v : Bool) : BdD := { b with dis := fset b.dis n v }
def flagB (b : BdD) (f : Nat) (v : Bool) : BdD := { b with fl := b.fl.set f v }
def beginB (b : BdD) (l : LineD) : BdD := { b with rung := if l.lvl then b.rung else fset b.rung l.name false, und := fset b.und l.name true }
def endB (b : BdD) (l : LineD) : BdD := { b with und := fset b.und l.name false }
def waitsB (b : BdD) (l : LineD) : Bool := b.rung l.name && (!l.lvl || !b.und l.name)
def readyB (b : BdD) (l : LineD) : Bool := waitsB b l && !b.dis l.name && !b.und l.name
/-- the lines in the order of their names in a set-up -/
def lineOf (S : SetD) (n : Str) : LineD := (S.ls.find? fun l => decide (l.name = n)).getD ⟨n, false, 0, []⟩
def linesO (S : SetD) : List LineD := S.order.map (lineOf S)
def rankOf (ws : List WorkD) (n : Str) : Int := ((ws.find? fun w => decide (w.name = n)).map (·.rank)).getD 0
def lenOf (ws : List WorkD) (n : Str) : Int := ((ws.find? fun w => decide (w.name = n)).map (·.ticks)).getD 0
def putR (ws : List WorkD) (rows : List (Str × Int)) (n : Str) (t : Int) : List (Str × Int) :=
  if t = 0 ∧ (n, 0) ∈ rows then rows else
    let k := (rows.filter fun r => decide (rankOf ws n ≤ rankOf ws r.1)).length
    rows.take k ++ [(n, t)] ++ rows.drop k
def takesNo (b : BdD) : SD → Bool
  | .run _ => false
  | .await f => b.fl.getD f false
  | _ => true
def actB (b : BdD) : SD → BdD
  | .ring l => ringB b l
  | .quiet l => quietB b l
  | .mask l => maskB b l true
  | .unmask l => maskB b l false
  | .setf f => flagB b f true
  | .clearf f => flagB b f false
  | _ => b
def actP (ws : List WorkD) (p : PrD) : SD → PrD
  | .bar x => { p with bar := x }
  | .later w => { p with rows := putR ws p.rows w 0 }
  | _ => p
/-- through steps that take no tick -/
def thru (ws : List WorkD) : List SD → Nat → BdD → PrD → Nat × BdD × PrD
  | [], j, b, p => (j, b, p)
  | st :: r, j, b, p => if takesNo b st = true then thru ws r (j + 1) (actB b st) (actP ws p st) else (j, b, p)
def goA (ws : List WorkD) (b : BdD) (p : PrD) : BdD × PrD × List Ev :=
  match p.stack.getLast? with
  | none => (b, p, [])
  | some c =>
    let z := thru ws (c.line.steps.drop c.step) c.step b { p with stack := p.stack.dropLast }
    if z.1 < c.line.steps.length then (z.2.1, { z.2.2 with stack := z.2.2.stack ++ [⟨c.line, z.1, c.ticks, c.kept⟩] }, []) else (endB z.2.1 c.line, { z.2.2 with bar := c.kept }, [.fin c.line])
def floorA (p : PrD) : Int := match p.stack.getLast? with
  | none => p.bar
  | some c => if c.line.rank > p.bar then c.line.rank else p.bar
def takeA (ws : List WorkD) (b : BdD) (p : PrD) (ls : List LineD) : BdD × PrD × List Ev :=
  match ls with
  | [] => (b, p, [])
  | l :: _ => if l.rank > floorA p then
      let z := goA ws (beginB b l) { p with stack := p.stack ++ [⟨l, 0, 0, p.bar⟩] }
      (z.1, z.2.1, .bgn l :: z.2.2) else (b, p, [])
def stepOf (c : CallD) : Option SD := c.line.steps[c.step]?
def passes (b : BdD) (p : PrD) : Bool := match p.stack.getLast? with
  | none => false
  | some c => match stepOf c with
    | some (.await f) => b.fl.getD f false
    | _ => false
def onA (ws : List WorkD) : Nat → BdD → PrD → BdD × PrD × List Ev
  | 0, b, p => (b, p, [])
  | n + 1, b, p => if passes b p = true then
      let z := goA ws b p
      let y := onA ws n z.1 z.2.1
      (y.1, y.2.1, z.2.2 ++ y.2.2) else (b, p, [])
def spendA (ws : List WorkD) (b : BdD) (p : PrD) : BdD × PrD × List Ev :=
  match p.stack.getLast? with
  | none => match p.rows with
    | [] => (b, { p with c3 := p.c3 + 1 }, [])
    | (n, t) :: r => if t + 1 < lenOf ws n then (b, { p with c2 := p.c2 + 1, rows := (n, t + 1) :: r }, []) else (b, { p with c2 := p.c2 + 1, rows := r }, [.dne n])
  | some c => match stepOf c with
    | some (.await _) => (b, { p with c1 := p.c1 + 1 }, [])
    | some (.run n) => if c.ticks + 1 < n then (b, { p with c0 := p.c0 + 1, stack := p.stack.dropLast ++ [⟨c.line, c.step, c.ticks + 1, c.kept⟩] }, [])
        else goA ws b { p with c0 := p.c0 + 1, stack := p.stack.dropLast ++ [⟨c.line, c.step + 1, 0, c.kept⟩] }
    | _ => (b, p, [])
def tickA (ws : List WorkD) (S : SetD) (b : BdD) (p : PrD) : BdD × PrD × List Ev :=
  let z := takeA ws b p ((linesO S).filter (readyB b))
  let y := onA ws z.2.1.stack.length z.1 z.2.1
  let x := spendA ws y.1 y.2.1
  (x.1, x.2.1, z.2.2 ++ (y.2.2 ++ x.2.2))
/-- a call rests at a step that takes ticks -/
structure CallOk (S : SetD) (c : CallD) : Prop where
  ln : c.line ∈ S.ls
  st : (∃ n, stepOf c = some (.run n) ∧ 0 ≤ c.ticks ∧ c.ticks < n) ∨ ∃ f, stepOf c = some (.await f) ∧ c.ticks = 0
def RowsOk (ws : List WorkD) (rows : List (Str × Int)) : Prop := ∀ r ∈ rows, ∃ w ∈ ws, w.name = r.1 ∧ 0 ≤ r.2 ∧ r.2 < w.ticks
structure PrOk (S : SetD) (p : PrD) : Prop where
  calls : ∀ c ∈ p.stack, CallOk S c
  rows : RowsOk S.ws p.rows
def FlOk (b : BdD) : Prop := b.fl.length = 8
end Cb

namespace Cb
open PySem PySem.Spec PyProof.Rows L2

def top (i : Nat) : Stmt := PySem.Challenge.pw_callbells_k13_copies_and_equality.main.body.getD i (.Pass ⟨0, 0, 0, 0⟩)
abbrev s_is_integer : Stmt := top 15
abbrev s_check_number : Stmt := top 16
abbrev s_is_letters : Stmt := top 17
abbrev s_is_name : Stmt := top 18
abbrev s_is_line : Stmt := top 19
abbrev s_is_work : Stmt := top 20
abbrev s_is_step : Stmt := top 21
abbrev s_spoilt_named : Stmt := top 22
abbrev s_spoilt_line : Stmt := top 23
abbrev s_spoilt_work : Stmt := top 24
abbrev s_spoilt_handler : Stmt := top 25
abbrev s_Setup_init : Stmt := inClass (top 27) 3
abbrev s_Setup_contains : Stmt := inClass (top 27) 6
abbrev s_Setup_getitem : Stmt := inClass (top 27) 7
abbrev s_Setup_eq : Stmt := inClass (top 27) 9
abbrev s_Setup_sub : Stmt := inClass (top 27) 10
abbrev s_Setup_lines : Stmt := inClass (top 27) 11
abbrev s_Setup_works : Stmt := inClass (top 27) 12
abbrev s_Setup_order : Stmt := inClass (top 27) 13
abbrev s_check_setup : Stmt := top 28
abbrev s_put_changed : Stmt := top 30
abbrev s_check_flag : Stmt := top 31
abbrev s_Board_init : Stmt := inClass (top 32) 0
abbrev s_Board_copied_board : Stmt := inClass (top 32) 1
abbrev s_Board_take_over : Stmt := inClass (top 32) 2
abbrev s_Board_check_line : Stmt := inClass (top 32) 3
abbrev s_Board_is_edge : Stmt := inClass (top 32) 4
abbrev s_Board_ring : Stmt := inClass (top 32) 5
abbrev s_Board_quiet : Stmt := inClass (top 32) 6
abbrev s_Board_mask : Stmt := inClass (top 32) 7
abbrev s_Board_unmask : Stmt := inClass (top 32) 8
abbrev s_Board_set_flag : Stmt := inClass (top 32) 9
abbrev s_Board_clear_flag : Stmt := inClass (top 32) 10
abbrev s_Board_act : Stmt := inClass (top 32) 11
abbrev s_Board_begin : Stmt := inClass (top 32) 12
abbrev s_Board_end : Stmt := inClass (top 32) 13
abbrev s_Board_is_up : Stmt := inClass (top 32) 14
abbrev s_Board_is_enabled : Stmt := inClass (top 32) 15
abbrev s_Board_is_high : Stmt := inClass (top 32) 16
abbrev s_Board_waits : Stmt := inClass (top 32) 17
abbrev s_Board_waiting_lines : Stmt := inClass (top 32) 18
abbrev s_Board_ready_lines : Stmt := inClass (top 32) 19
abbrev s_Board_disabled_lines : Stmt := inClass (top 32) 20
abbrev s_Board_high_lines : Stmt := inClass (top 32) 21
abbrev s_Board_raised_flags : Stmt := inClass (top 32) 23
abbrev s_Board_board_state : Stmt := inClass (top 32) 24
abbrev s_WorkQueue_init : Stmt := inClass (top 34) 0
abbrev s_WorkQueue_copy_rows : Stmt := inClass (top 34) 1
abbrev s_WorkQueue_rows : Stmt := inClass (top 34) 2
abbrev s_WorkQueue_is_empty : Stmt := inClass (top 34) 3
abbrev s_WorkQueue_put : Stmt := inClass (top 34) 4
abbrev s_WorkQueue_spend : Stmt := inClass (top 34) 6
abbrev s_Processor_init : Stmt := inClass (top 40) 0
abbrev s_Processor_copied_onto : Stmt := inClass (top 40) 1
abbrev s_Processor_take : Stmt := inClass (top 40) 2
abbrev s_Processor_go_on : Stmt := inClass (top 40) 3
abbrev s_Processor_bar_now : Stmt := inClass (top 40) 4
abbrev s_Processor_call_rows : Stmt := inClass (top 40) 5
abbrev s_Processor_work_rows : Stmt := inClass (top 40) 6
abbrev s_Processor_spent_ticks : Stmt := inClass (top 40) 8
abbrev s_Processor_processor_state : Stmt := inClass (top 40) 11
abbrev s_Processor_lets_by : Stmt := inClass (top 40) 12
abbrev s_Processor_present_step : Stmt := inClass (top 40) 13
abbrev s_Processor_passes_flag : Stmt := inClass (top 40) 14
abbrev s_Processor_takes_no_tick : Stmt := inClass (top 40) 15
abbrev s_Processor_act : Stmt := inClass (top 40) 16
abbrev s_Processor_go_through : Stmt := inClass (top 40) 17
abbrev s_Processor_spend : Stmt := inClass (top 40) 18
abbrev s_Processor_spend_beside_calls : Stmt := inClass (top 40) 19
abbrev s_Single_init : Stmt := inClass (top 43) 0
abbrev s_Single_eq : Stmt := inClass (top 43) 1
abbrev s_Single_told : Stmt := inClass (top 43) 2
abbrev s_Single_state : Stmt := inClass (top 43) 3
abbrev s_Single_copied : Stmt := inClass (top 43) 8
abbrev s_Single_ring : Stmt := inClass (top 43) 9
abbrev s_Single_quiet : Stmt := inClass (top 43) 10
abbrev s_Single_mask : Stmt := inClass (top 43) 11
abbrev s_Single_unmask : Stmt := inClass (top 43) 12
abbrev s_Single_set_flag : Stmt := inClass (top 43) 13
abbrev s_Single_clear_flag : Stmt := inClass (top 43) 14
abbrev s_Single_tick : Stmt := inClass (top 43) 15
abbrev s_Single_now : Stmt := inClass (top 43) 17
abbrev s_Single_waiting : Stmt := inClass (top 43) 18
abbrev s_Single_calls : Stmt := inClass (top 43) 19
abbrev s_Single_queue : Stmt := inClass (top 43) 20
abbrev s_Single_flags_up : Stmt := inClass (top 43) 21
abbrev s_Single_bar : Stmt := inClass (top 43) 22
abbrev s_Single_masked : Stmt := inClass (top 43) 23
abbrev s_Single_highs : Stmt := inClass (top 43) 24
abbrev s_Single_spent : Stmt := inClass (top 43) 25
abbrev s_law_taken : Stmt := top 45
abbrev s_law_alike : Stmt := top 46
abbrev s_law_mixed : Stmt := top 47
abbrev s_law_step : Stmt := top 48
abbrev s_law_setup : Stmt := top 49
abbrev s_law_new : Stmt := top 50
abbrev s_law_seen : Stmt := top 51
abbrev s_law_deed : Stmt := top 52
abbrev s_law_done : Stmt := top 53
abbrev s_law : Stmt := top 54
def prA (C f : Str) (K : PySem.W.Frag) : Addr := match PySem.W.findIn K (.ref (He.ga K C)) f with
  | some (some (.ref p)) => (match PySem.W.recIn K p "property" with
    | some (.ref g :: _) => g
    | _ => 0)
  | _ => 0
def argL : List (Str × He.Dv) := [("run", .str "ticks"), ("ring", .str "line"), ("quiet", .str "level"), ("mask", .str "line"), ("unmask", .str "line"), ("set", .str "flag"), ("clear", .str "flag"), ("await", .str "flag"), ("bar", .str "bar"), ("later", .str "work")]
def tupAtB (K : PySem.W.Frag) (a : Addr) (vs : List He.Dv) : Bool := match K.lookup a with
  | some ⟨.type c, _, .seq its _, _⟩ => decide (c = "tuple") && (decide (its.size ≤ sizeLine) && He.relAll (vs.map (He.Dv.v K)) its.toList)
  | _ => false
theorem tupAtB_ok {K : PySem.W.Frag} {a : Addr} {vs : List He.Dv} (h : tupAtB K a vs = true) (H : Hp) : SqT K H a (vs.map (He.Dv.v K)) := by
  unfold tupAtB at h
  cases q : K.lookup a with
  | none =>
    rw [q] at h
    cases h
  | some o =>
    obtain ⟨oc, od, dt, osl⟩ := o
    rw [q] at h
    cases oc with
    | type c =>
      cases dt with
      | seq its n =>
        obtain ⟨h1, h2⟩ := He.ba (show (decide (c = "tuple") && (decide (its.size ≤ sizeLine) && He.relAll (vs.map (He.Dv.v K)) its.toList)) = true from h)
        obtain ⟨h3, h4⟩ := He.ba h2
        exact .inr ⟨_, its, n, q, congrArg Value.type (of_decide_eq_true h1), rfl, of_decide_eq_true h3, He.relAll_ok h4⟩
      | _ => cases h
    | _ => cases dt <;> cases h
theorem int_rel {mg : Str → Option Value} {x : Str} {i : Int} (h : ∃ t, mg x = some (.int i t)) : ∃ u, mg x = some u ∧ RelV (.int i) u := let ⟨t, e⟩ := h; ⟨_, e, t, rfl⟩
def propB (K : PySem.W.Frag) (C f : Str) : Bool := match PySem.W.findIn K (.ref (aC C K)) f with
  | some (some (.ref p)) => He.eqO (PySem.W.specialIn K (.ref p) "__get__") (some (some (.builtin "property.__get__"))) && (decide (PySem.W.takesIn K (.ref p) = some true) && (match PySem.W.recIn K p "property" with
    | some (.ref g :: _) => decide (g = prA C f K)
    | _ => false))
  | _ => false
theorem propB_ok {K : PySem.W.Frag} {C f : Str} (h : propB K C f = true) : ∃ p, PropOf K (aC C K) f p (prA C f K) := by
  unfold propB at h
  cases e : PySem.W.findIn K (.ref (aC C K)) f with
  | none => rw [e] at h; cases h
  | some r => cases r with
    | none => rw [e] at h; cases h
    | some v => cases v with
      | ref p =>
        rw [e] at h
        obtain ⟨h1, h⟩ := He.ba h
        obtain ⟨h2, h3⟩ := He.ba h
        refine ⟨p, e, He.eqO_ok h1, of_decide_eq_true h2, ?_⟩
        cases q : PySem.W.recIn K p "property" with
        | none => rw [q] at h3; cases h3
        | some l => cases l with
          | nil => rw [q] at h3; cases h3
          | cons g r => cases g with
            | ref g =>
              rw [q] at h3
              exact ⟨r, by rw [show g = prA C f K from of_decide_eq_true h3]⟩
            | _ => rw [q] at h3; cases h3
      | _ => rw [e] at h; cases h
def creadB (K : PySem.W.Frag) (C : Addr) : Bool := PySem.W.readsIn K C (.type "type") && He.eqO (PySem.W.specialIn K (.ref C) "__getattribute__") (some (some (.builtin "type.__getattribute__")))
theorem creadB_ok {K : PySem.W.Frag} {C : Addr} (h : creadB K C = true) : ClX.CRead K C (.type "type") := ⟨(He.ba h).1, He.eqO_ok (He.ba h).2⟩
def cvalB (K : PySem.W.Frag) (C : Addr) (f : Str) (i : Int) : Bool := match PySem.W.findCls K (.ref C) (.type "type") f with
  | some (.val (.int j _)) => decide (j = i)
  | _ => false
theorem cvalB_ok {K : PySem.W.Frag} {C : Addr} {f : Str} {i : Int} (h : cvalB K C f i = true) : ∃ u, ClX.CVal K C (.type "type") f (.int i) u := by
  unfold cvalB at h
  split at h
  · rename_i j t e
    obtain rfl : j = i := of_decide_eq_true h
    exact ⟨_, e, t, rfl⟩
  · cases h
def insB (K : PySem.W.Frag) (C : Addr) : Bool := He.eqO (PySem.W.findIn K (.ref C) "__class__") (some (some (.builtin "object.__class__"))) && (He.eqO (PySem.W.specialIn K (.builtin "object.__class__") "__get__") (some (some (.builtin "getset_descriptor.__get__"))) && (decide (PySem.W.takesIn K (.builtin "object.__class__") = some true) && (decide (PySem.W.mroIn K C (.type "object") = some true) && decide (PySem.W.kitOne K (.ref C) (.ref C) = some true))))
theorem insB_ok {K : PySem.W.Frag} {x : Str} (h : (He.Fa.cls x).ok K = true ∧ insB K (aC x K) = true) : C8.InsC K (aC x K) := by
  obtain ⟨h0, h⟩ := h
  obtain ⟨h1, h⟩ := He.ba h
  obtain ⟨h2, h⟩ := He.ba h
  obtain ⟨h3, h⟩ := He.ba h
  obtain ⟨h4, h5⟩ := He.ba h
  exact ⟨He.cls_ok h0, He.eqO_ok h1, He.eqO_ok h2, of_decide_eq_true h3, of_decide_eq_true h4, of_decide_eq_true h5⟩
structure Txt (K : PySem.W.Frag) (mg : Str → Option Value) : Prop where
  n_len : mg "len" = none
  n_isinstance : mg "isinstance" = none
  n_enumerate : mg "enumerate" = none
  n_range : mg "range" = none
  n_tuple : mg "tuple" = none
  n_list : mg "list" = none
  n_dict : mg "dict" = none
  n_sorted : mg "sorted" = none
  n_all : mg "all" = none
  n_sum : mg "sum" = none
  n_max : mg "max" = none
  n_int : mg "int" = none
  n_bool : mg "bool" = none
  n_str : mg "str" = none
  n_min : mg "min" = none
  n_set : mg "set" = none
  k_MAX_LETTERS : ∃ u, mg "MAX_LETTERS" = some u ∧ RelV (.int 8) u
  k_MAX_RANK : ∃ u, mg "MAX_RANK" = some u ∧ RelV (.int 9) u
  k_MAX_STEPS : ∃ u, mg "MAX_STEPS" = some u ∧ RelV (.int 8) u
  k_MAX_TICKS : ∃ u, mg "MAX_TICKS" = some u ∧ RelV (.int 99) u
  k_CALLED : ∃ u, mg "CALLED" = some u ∧ RelV (.int 0) u
  k_SPUN : ∃ u, mg "SPUN" = some u ∧ RelV (.int 1) u
  k_WORKED : ∃ u, mg "WORKED" = some u ∧ RelV (.int 2) u
  k_IDLE : ∃ u, mg "IDLE" = some u ∧ RelV (.int 3) u
  k_MOST_TICKS : ∃ u, mg "MOST_TICKS" = some u ∧ RelV (.int 10000) u
  k_KINDS : ∃ u, mg "KINDS" = some u ∧ RelV (.ref (He.ga K "KINDS")) u
  v_KINDS : ∀ H, SqT K H (He.ga K "KINDS") [.str "edge", .str "level"]
  k_ARGUMENTS : ∃ u, mg "ARGUMENTS" = some u ∧ RelV (.ref (He.ga K "ARGUMENTS")) u
  v_ARGUMENTS : He.valsB K (He.ga K "ARGUMENTS") argL = true
  f_is_integer : mg "is_integer" = some (.ref (He.ga K "is_integer"))
  f_check_number : mg "check_number" = some (.ref (He.ga K "check_number"))
  f_is_letters : mg "is_letters" = some (.ref (He.ga K "is_letters"))
  f_is_name : mg "is_name" = some (.ref (He.ga K "is_name"))
  f_is_line : mg "is_line" = some (.ref (He.ga K "is_line"))
  f_is_work : mg "is_work" = some (.ref (He.ga K "is_work"))
  f_is_step : mg "is_step" = some (.ref (He.ga K "is_step"))
  f_spoilt_named : mg "spoilt_named" = some (.ref (He.ga K "spoilt_named"))
  f_spoilt_line : mg "spoilt_line" = some (.ref (He.ga K "spoilt_line"))
  f_spoilt_work : mg "spoilt_work" = some (.ref (He.ga K "spoilt_work"))
  f_spoilt_handler : mg "spoilt_handler" = some (.ref (He.ga K "spoilt_handler"))
  f_check_setup : mg "check_setup" = some (.ref (He.ga K "check_setup"))
  f_put_changed : mg "put_changed" = some (.ref (He.ga K "put_changed"))
  f_check_flag : mg "check_flag" = some (.ref (He.ga K "check_flag"))
  f__law_taken : mg "_law_taken" = some (.ref (He.ga K "_law_taken"))
  f__law_alike : mg "_law_alike" = some (.ref (He.ga K "_law_alike"))
  f__law_mixed : mg "_law_mixed" = some (.ref (He.ga K "_law_mixed"))
  f__law_step : mg "_law_step" = some (.ref (He.ga K "_law_step"))
  f__law_setup : mg "_law_setup" = some (.ref (He.ga K "_law_setup"))
  f__law_new : mg "_law_new" = some (.ref (He.ga K "_law_new"))
  f__law_seen : mg "_law_seen" = some (.ref (He.ga K "_law_seen"))
  f__law_deed : mg "_law_deed" = some (.ref (He.ga K "_law_deed"))
  f__law_done : mg "_law_done" = some (.ref (He.ga K "_law_done"))
  f_law : mg "law" = some (.ref (He.ga K "law"))
  g_Setup : mg "Setup" = some (.ref (aC "Setup" K))
  cl_Setup : Cls K (aC "Setup" K)
  mk_Setup : Mk K (aC "Setup" K) (He.ma K (aC "Setup" K) "__init__")
  t_Setup_lines : NoAttr K (aC "Setup" K) "_lines"
  t_Setup_works : NoAttr K (aC "Setup" K) "_works"
  t_Setup_by_name : NoAttr K (aC "Setup" K) "_by_name"
  t_Setup_order : NoAttr K (aC "Setup" K) "_order"
  g_Board : mg "Board" = some (.ref (aC "Board" K))
  cl_Board : Cls K (aC "Board" K)
  mk_Board : Mk K (aC "Board" K) (He.ma K (aC "Board" K) "__init__")
  t_Board_setup : NoAttr K (aC "Board" K) "_setup"
  t_Board_rung : NoAttr K (aC "Board" K) "_rung"
  t_Board_disabled : NoAttr K (aC "Board" K) "_disabled"
  t_Board_under_way : NoAttr K (aC "Board" K) "_under_way"
  t_Board_flags : NoAttr K (aC "Board" K) "_flags"
  t_Board_merges : NoAttr K (aC "Board" K) "_merges"
  g_WorkQueue : mg "WorkQueue" = some (.ref (aC "WorkQueue" K))
  cl_WorkQueue : Cls K (aC "WorkQueue" K)
  mk_WorkQueue : Mk K (aC "WorkQueue" K) (He.ma K (aC "WorkQueue" K) "__init__")
  t_WorkQueue_ranks : NoAttr K (aC "WorkQueue" K) "_ranks"
  t_WorkQueue_lengths : NoAttr K (aC "WorkQueue" K) "_lengths"
  t_WorkQueue_rows : NoAttr K (aC "WorkQueue" K) "_rows"
  g_Processor : mg "Processor" = some (.ref (aC "Processor" K))
  cl_Processor : Cls K (aC "Processor" K)
  mk_Processor : Mk K (aC "Processor" K) (He.ma K (aC "Processor" K) "__init__")
  t_Processor_setup : NoAttr K (aC "Processor" K) "_setup"
  t_Processor_board : NoAttr K (aC "Processor" K) "_board"
  t_Processor_bar : NoAttr K (aC "Processor" K) "_bar"
  t_Processor_stack : NoAttr K (aC "Processor" K) "_stack"
  t_Processor_jobs : NoAttr K (aC "Processor" K) "_jobs"
  t_Processor_counts : NoAttr K (aC "Processor" K) "_counts"
  g_Single : mg "Single" = some (.ref (aC "Single" K))
  cl_Single : Cls K (aC "Single" K)
  mk_Single : Mk K (aC "Single" K) (He.ma K (aC "Single" K) "__init__")
  t_Single_setup : NoAttr K (aC "Single" K) "_setup"
  t_Single_board : NoAttr K (aC "Single" K) "_board"
  t_Single_processor : NoAttr K (aC "Single" K) "_processor"
  t_Single_now : NoAttr K (aC "Single" K) "_now"
  m_Setup_contains : Meth K (aC "Setup" K) "__contains__" (He.ma K (aC "Setup" K) "__contains__")
  m_Setup_getitem : Meth K (aC "Setup" K) "__getitem__" (He.ma K (aC "Setup" K) "__getitem__")
  m_Setup_eq : Meth K (aC "Setup" K) "__eq__" (He.ma K (aC "Setup" K) "__eq__")
  m_Setup_sub : Meth K (aC "Setup" K) "__sub__" (He.ma K (aC "Setup" K) "__sub__")
  m_Board_copied_board : Meth K (aC "Board" K) "copied_board" (He.ma K (aC "Board" K) "copied_board")
  m_Board_take_over : Meth K (aC "Board" K) "take_over" (He.ma K (aC "Board" K) "take_over")
  m_Board_check_line : Meth K (aC "Board" K) "_check_line" (He.ma K (aC "Board" K) "_check_line")
  m_Board_is_edge : Meth K (aC "Board" K) "_is_edge" (He.ma K (aC "Board" K) "_is_edge")
  m_Board_ring : Meth K (aC "Board" K) "ring" (He.ma K (aC "Board" K) "ring")
  m_Board_quiet : Meth K (aC "Board" K) "quiet" (He.ma K (aC "Board" K) "quiet")
  m_Board_mask : Meth K (aC "Board" K) "mask" (He.ma K (aC "Board" K) "mask")
  m_Board_unmask : Meth K (aC "Board" K) "unmask" (He.ma K (aC "Board" K) "unmask")
  m_Board_set_flag : Meth K (aC "Board" K) "set_flag" (He.ma K (aC "Board" K) "set_flag")
  m_Board_clear_flag : Meth K (aC "Board" K) "clear_flag" (He.ma K (aC "Board" K) "clear_flag")
  m_Board_act : Meth K (aC "Board" K) "act" (He.ma K (aC "Board" K) "act")
  m_Board_begin : Meth K (aC "Board" K) "begin" (He.ma K (aC "Board" K) "begin")
  m_Board_end : Meth K (aC "Board" K) "end" (He.ma K (aC "Board" K) "end")
  m_Board_is_up : Meth K (aC "Board" K) "is_up" (He.ma K (aC "Board" K) "is_up")
  m_Board_is_enabled : Meth K (aC "Board" K) "is_enabled" (He.ma K (aC "Board" K) "is_enabled")
  m_Board_is_high : Meth K (aC "Board" K) "is_high" (He.ma K (aC "Board" K) "is_high")
  m_Board_waits : Meth K (aC "Board" K) "waits" (He.ma K (aC "Board" K) "waits")
  m_Board_waiting_lines : Meth K (aC "Board" K) "waiting_lines" (He.ma K (aC "Board" K) "waiting_lines")
  m_Board_ready_lines : Meth K (aC "Board" K) "ready_lines" (He.ma K (aC "Board" K) "ready_lines")
  m_Board_disabled_lines : Meth K (aC "Board" K) "disabled_lines" (He.ma K (aC "Board" K) "disabled_lines")
  m_Board_high_lines : Meth K (aC "Board" K) "high_lines" (He.ma K (aC "Board" K) "high_lines")
  m_Board_raised_flags : Meth K (aC "Board" K) "raised_flags" (He.ma K (aC "Board" K) "raised_flags")
  m_Board_board_state : Meth K (aC "Board" K) "board_state" (He.ma K (aC "Board" K) "board_state")
  m_WorkQueue_copy_rows : Meth K (aC "WorkQueue" K) "copy_rows" (He.ma K (aC "WorkQueue" K) "copy_rows")
  m_WorkQueue_rows : Meth K (aC "WorkQueue" K) "rows" (He.ma K (aC "WorkQueue" K) "rows")
  m_WorkQueue_is_empty : Meth K (aC "WorkQueue" K) "is_empty" (He.ma K (aC "WorkQueue" K) "is_empty")
  m_WorkQueue_put : Meth K (aC "WorkQueue" K) "put" (He.ma K (aC "WorkQueue" K) "put")
  m_WorkQueue_spend : Meth K (aC "WorkQueue" K) "spend" (He.ma K (aC "WorkQueue" K) "spend")
  m_Processor_copied_onto : Meth K (aC "Processor" K) "copied_onto" (He.ma K (aC "Processor" K) "copied_onto")
  m_Processor_take : Meth K (aC "Processor" K) "take" (He.ma K (aC "Processor" K) "take")
  m_Processor_go_on : Meth K (aC "Processor" K) "go_on" (He.ma K (aC "Processor" K) "go_on")
  m_Processor_bar_now : Meth K (aC "Processor" K) "bar_now" (He.ma K (aC "Processor" K) "bar_now")
  m_Processor_call_rows : Meth K (aC "Processor" K) "call_rows" (He.ma K (aC "Processor" K) "call_rows")
  m_Processor_work_rows : Meth K (aC "Processor" K) "work_rows" (He.ma K (aC "Processor" K) "work_rows")
  m_Processor_spent_ticks : Meth K (aC "Processor" K) "spent_ticks" (He.ma K (aC "Processor" K) "spent_ticks")
  m_Processor_processor_state : Meth K (aC "Processor" K) "processor_state" (He.ma K (aC "Processor" K) "processor_state")
  m_Processor_lets_by : Meth K (aC "Processor" K) "_lets_by" (He.ma K (aC "Processor" K) "_lets_by")
  m_Processor_present_step : Meth K (aC "Processor" K) "_present_step" (He.ma K (aC "Processor" K) "_present_step")
  m_Processor_passes_flag : Meth K (aC "Processor" K) "_passes_flag" (He.ma K (aC "Processor" K) "_passes_flag")
  m_Processor_takes_no_tick : Meth K (aC "Processor" K) "_takes_no_tick" (He.ma K (aC "Processor" K) "_takes_no_tick")
  m_Processor_act : Meth K (aC "Processor" K) "_act" (He.ma K (aC "Processor" K) "_act")
  m_Processor_go_through : Meth K (aC "Processor" K) "_go_through" (He.ma K (aC "Processor" K) "_go_through")
  m_Processor_spend : Meth K (aC "Processor" K) "_spend" (He.ma K (aC "Processor" K) "_spend")
  m_Processor_spend_beside_calls : Meth K (aC "Processor" K) "_spend_beside_calls" (He.ma K (aC "Processor" K) "_spend_beside_calls")
  m_Single_eq : Meth K (aC "Single" K) "__eq__" (He.ma K (aC "Single" K) "__eq__")
  m_Single_told : Meth K (aC "Single" K) "_told" (He.ma K (aC "Single" K) "_told")
  m_Single_state : Meth K (aC "Single" K) "state" (He.ma K (aC "Single" K) "state")
  m_Single_copied : Meth K (aC "Single" K) "copied" (He.ma K (aC "Single" K) "copied")
  m_Single_ring : Meth K (aC "Single" K) "ring" (He.ma K (aC "Single" K) "ring")
  m_Single_quiet : Meth K (aC "Single" K) "quiet" (He.ma K (aC "Single" K) "quiet")
  m_Single_mask : Meth K (aC "Single" K) "mask" (He.ma K (aC "Single" K) "mask")
  m_Single_unmask : Meth K (aC "Single" K) "unmask" (He.ma K (aC "Single" K) "unmask")
  m_Single_set_flag : Meth K (aC "Single" K) "set_flag" (He.ma K (aC "Single" K) "set_flag")
  m_Single_clear_flag : Meth K (aC "Single" K) "clear_flag" (He.ma K (aC "Single" K) "clear_flag")
  m_Single_tick : Meth K (aC "Single" K) "tick" (He.ma K (aC "Single" K) "tick")
  p_Setup_lines : ∃ p, PropOf K (aC "Setup" K) "lines" p (prA "Setup" "lines" K)
  p_Setup_works : ∃ p, PropOf K (aC "Setup" K) "works" p (prA "Setup" "works" K)
  p_Setup_order : ∃ p, PropOf K (aC "Setup" K) "order" p (prA "Setup" "order" K)
  p_Single_now : ∃ p, PropOf K (aC "Single" K) "now" p (prA "Single" "now" K)
  p_Single_waiting : ∃ p, PropOf K (aC "Single" K) "waiting" p (prA "Single" "waiting" K)
  p_Single_calls : ∃ p, PropOf K (aC "Single" K) "calls" p (prA "Single" "calls" K)
  p_Single_queue : ∃ p, PropOf K (aC "Single" K) "queue" p (prA "Single" "queue" K)
  p_Single_flags_up : ∃ p, PropOf K (aC "Single" K) "flags_up" p (prA "Single" "flags_up" K)
  p_Single_bar : ∃ p, PropOf K (aC "Single" K) "bar" p (prA "Single" "bar" K)
  p_Single_masked : ∃ p, PropOf K (aC "Single" K) "masked" p (prA "Single" "masked" K)
  p_Single_highs : ∃ p, PropOf K (aC "Single" K) "highs" p (prA "Single" "highs" K)
  p_Single_spent : ∃ p, PropOf K (aC "Single" K) "spent" p (prA "Single" "spent" K)
  r_Setup : ClX.CRead K (aC "Setup" K) (.type "type")
  c_Setup_MAX_LINES : ∃ u, ClX.CVal K (aC "Setup" K) (.type "type") "MAX_LINES" (.int 12) u
  c_Setup_MAX_WORKS : ∃ u, ClX.CVal K (aC "Setup" K) (.type "type") "MAX_WORKS" (.int 8) u
  c_Setup_MAX_FLAG : ∃ u, ClX.CVal K (aC "Setup" K) (.type "type") "MAX_FLAG" (.int 7) u
  d_Setup : ∀ H, SqT K H (He.dflAt ("Setup", some "__init__") 0 K) []
  i_getitem : PySem.W.fnIn K (He.ma K (aC "Setup" K) "__getitem__") = true
  x_sub : PySem.W.selfFirst K (aC "Setup" K) = true
  x_rsub : PySem.W.findIn K (.ref (aC "Setup" K)) "__rsub__" = some none
  i_Setup : C8.InsC K (aC "Setup" K)
  i_Single : C8.InsC K (aC "Single" K)
  q_list : PySem.W.kitOne K (.type "list") (.ref (aC "Single" K)) = some false
  q_setup : PySem.W.kitOne K (.ref (aC "Setup" K)) (.ref (aC "Single" K)) = some false
def exL (K : PySem.W.Frag) : List Bool := [(He.Fa.free "len").ok K,
  (He.Fa.free "isinstance").ok K,
  (He.Fa.free "enumerate").ok K,
  (He.Fa.free "range").ok K,
  (He.Fa.free "tuple").ok K,
  (He.Fa.free "list").ok K,
  (He.Fa.free "dict").ok K,
  (He.Fa.free "sorted").ok K,
  (He.Fa.free "all").ok K,
  (He.Fa.free "sum").ok K,
  (He.Fa.free "max").ok K,
  (He.Fa.free "int").ok K,
  (He.Fa.free "bool").ok K,
  (He.Fa.free "str").ok K,
  (He.Fa.free "min").ok K,
  (He.Fa.free "set").ok K,
  (He.Fa.int "MAX_LETTERS" 8).ok K,
  (He.Fa.int "MAX_RANK" 9).ok K,
  (He.Fa.int "MAX_STEPS" 8).ok K,
  (He.Fa.int "MAX_TICKS" 99).ok K,
  (He.Fa.int "CALLED" 0).ok K,
  (He.Fa.int "SPUN" 1).ok K,
  (He.Fa.int "WORKED" 2).ok K,
  (He.Fa.int "IDLE" 3).ok K,
  (He.Fa.int "MOST_TICKS" 10000).ok K,
  (He.Fa.glo "KINDS").ok K,
  He.tupB K "KINDS" [.str "edge", .str "level"],
  (He.Fa.glo "ARGUMENTS").ok K,
  He.valsB K (He.ga K "ARGUMENTS") argL,
  (He.Fa.glo "is_integer").ok K,
  (He.Fa.glo "check_number").ok K,
  (He.Fa.glo "is_letters").ok K,
  (He.Fa.glo "is_name").ok K,
  (He.Fa.glo "is_line").ok K,
  (He.Fa.glo "is_work").ok K,
  (He.Fa.glo "is_step").ok K,
  (He.Fa.glo "spoilt_named").ok K,
  (He.Fa.glo "spoilt_line").ok K,
  (He.Fa.glo "spoilt_work").ok K,
  (He.Fa.glo "spoilt_handler").ok K,
  (He.Fa.glo "check_setup").ok K,
  (He.Fa.glo "put_changed").ok K,
  (He.Fa.glo "check_flag").ok K,
  (He.Fa.glo "_law_taken").ok K,
  (He.Fa.glo "_law_alike").ok K,
  (He.Fa.glo "_law_mixed").ok K,
  (He.Fa.glo "_law_step").ok K,
  (He.Fa.glo "_law_setup").ok K,
  (He.Fa.glo "_law_new").ok K,
  (He.Fa.glo "_law_seen").ok K,
  (He.Fa.glo "_law_deed").ok K,
  (He.Fa.glo "_law_done").ok K,
  (He.Fa.glo "law").ok K,
  (He.Fa.glo "Setup").ok K,
  (He.Fa.cls "Setup").ok K,
  (He.Fa.mkr "Setup").ok K,
  (He.Fa.noat "Setup" "_lines").ok K,
  (He.Fa.noat "Setup" "_works").ok K,
  (He.Fa.noat "Setup" "_by_name").ok K,
  (He.Fa.noat "Setup" "_order").ok K,
  (He.Fa.glo "Board").ok K,
  (He.Fa.cls "Board").ok K,
  (He.Fa.mkr "Board").ok K,
  (He.Fa.noat "Board" "_setup").ok K,
  (He.Fa.noat "Board" "_rung").ok K,
  (He.Fa.noat "Board" "_disabled").ok K,
  (He.Fa.noat "Board" "_under_way").ok K,
  (He.Fa.noat "Board" "_flags").ok K,
  (He.Fa.noat "Board" "_merges").ok K,
  (He.Fa.glo "WorkQueue").ok K,
  (He.Fa.cls "WorkQueue").ok K,
  (He.Fa.mkr "WorkQueue").ok K,
  (He.Fa.noat "WorkQueue" "_ranks").ok K,
  (He.Fa.noat "WorkQueue" "_lengths").ok K,
  (He.Fa.noat "WorkQueue" "_rows").ok K,
  (He.Fa.glo "Processor").ok K,
  (He.Fa.cls "Processor").ok K,
  (He.Fa.mkr "Processor").ok K,
  (He.Fa.noat "Processor" "_setup").ok K,
  (He.Fa.noat "Processor" "_board").ok K,
  (He.Fa.noat "Processor" "_bar").ok K,
  (He.Fa.noat "Processor" "_stack").ok K,
  (He.Fa.noat "Processor" "_jobs").ok K,
  (He.Fa.noat "Processor" "_counts").ok K,
  (He.Fa.glo "Single").ok K,
  (He.Fa.cls "Single").ok K,
  (He.Fa.mkr "Single").ok K,
  (He.Fa.noat "Single" "_setup").ok K,
  (He.Fa.noat "Single" "_board").ok K,
  (He.Fa.noat "Single" "_processor").ok K,
  (He.Fa.noat "Single" "_now").ok K,
  (He.Fa.meth "Setup" "__contains__").ok K,
  (He.Fa.meth "Setup" "__getitem__").ok K,
  (He.Fa.meth "Setup" "__eq__").ok K,
  (He.Fa.meth "Setup" "__sub__").ok K,
  (He.Fa.meth "Board" "copied_board").ok K,
  (He.Fa.meth "Board" "take_over").ok K,
  (He.Fa.meth "Board" "_check_line").ok K,
  (He.Fa.meth "Board" "_is_edge").ok K,
  (He.Fa.meth "Board" "ring").ok K,
  (He.Fa.meth "Board" "quiet").ok K,
  (He.Fa.meth "Board" "mask").ok K,
  (He.Fa.meth "Board" "unmask").ok K,
  (He.Fa.meth "Board" "set_flag").ok K,
  (He.Fa.meth "Board" "clear_flag").ok K,
  (He.Fa.meth "Board" "act").ok K,
  (He.Fa.meth "Board" "begin").ok K,
  (He.Fa.meth "Board" "end").ok K,
  (He.Fa.meth "Board" "is_up").ok K,
  (He.Fa.meth "Board" "is_enabled").ok K,
  (He.Fa.meth "Board" "is_high").ok K,
  (He.Fa.meth "Board" "waits").ok K,
  (He.Fa.meth "Board" "waiting_lines").ok K,
  (He.Fa.meth "Board" "ready_lines").ok K,
  (He.Fa.meth "Board" "disabled_lines").ok K,
  (He.Fa.meth "Board" "high_lines").ok K,
  (He.Fa.meth "Board" "raised_flags").ok K,
  (He.Fa.meth "Board" "board_state").ok K,
  (He.Fa.meth "WorkQueue" "copy_rows").ok K,
  (He.Fa.meth "WorkQueue" "rows").ok K,
  (He.Fa.meth "WorkQueue" "is_empty").ok K,
  (He.Fa.meth "WorkQueue" "put").ok K,
  (He.Fa.meth "WorkQueue" "spend").ok K,
  (He.Fa.meth "Processor" "copied_onto").ok K,
  (He.Fa.meth "Processor" "take").ok K,
  (He.Fa.meth "Processor" "go_on").ok K,
  (He.Fa.meth "Processor" "bar_now").ok K,
  (He.Fa.meth "Processor" "call_rows").ok K,
  (He.Fa.meth "Processor" "work_rows").ok K,
  (He.Fa.meth "Processor" "spent_ticks").ok K,
  (He.Fa.meth "Processor" "processor_state").ok K,
  (He.Fa.meth "Processor" "_lets_by").ok K,
  (He.Fa.meth "Processor" "_present_step").ok K,
  (He.Fa.meth "Processor" "_passes_flag").ok K,
  (He.Fa.meth "Processor" "_takes_no_tick").ok K,
  (He.Fa.meth "Processor" "_act").ok K,
  (He.Fa.meth "Processor" "_go_through").ok K,
  (He.Fa.meth "Processor" "_spend").ok K,
  (He.Fa.meth "Processor" "_spend_beside_calls").ok K,
  (He.Fa.meth "Single" "__eq__").ok K,
  (He.Fa.meth "Single" "_told").ok K,
  (He.Fa.meth "Single" "state").ok K,
  (He.Fa.meth "Single" "copied").ok K,
  (He.Fa.meth "Single" "ring").ok K,
  (He.Fa.meth "Single" "quiet").ok K,
  (He.Fa.meth "Single" "mask").ok K,
  (He.Fa.meth "Single" "unmask").ok K,
  (He.Fa.meth "Single" "set_flag").ok K,
  (He.Fa.meth "Single" "clear_flag").ok K,
  (He.Fa.meth "Single" "tick").ok K,
  propB K "Setup" "lines",
  propB K "Setup" "works",
  propB K "Setup" "order",
  propB K "Single" "now",
  propB K "Single" "waiting",
  propB K "Single" "calls",
  propB K "Single" "queue",
  propB K "Single" "flags_up",
  propB K "Single" "bar",
  propB K "Single" "masked",
  propB K "Single" "highs",
  propB K "Single" "spent",
  creadB K (aC "Setup" K),
  cvalB K (aC "Setup" K) "MAX_LINES" 12,
  cvalB K (aC "Setup" K) "MAX_WORKS" 8,
  cvalB K (aC "Setup" K) "MAX_FLAG" 7,
  tupAtB K (He.dflAt ("Setup", some "__init__") 0 K) [],
  PySem.W.fnIn K (He.ma K (aC "Setup" K) "__getitem__"),
  PySem.W.selfFirst K (aC "Setup" K),
  He.eqO (PySem.W.findIn K (.ref (aC "Setup" K)) "__rsub__") (some none),
  (He.Fa.cls "Setup").ok K && insB K (aC "Setup" K),
  (He.Fa.cls "Single").ok K && insB K (aC "Single" K),
  decide (PySem.W.kitOne K (.type "list") (.ref (aC "Single" K)) = some false),
  decide (PySem.W.kitOne K (.ref (aC "Setup" K)) (.ref (aC "Single" K)) = some false)]
def exM (K : PySem.W.Frag) : Bool := (exL K).all id
theorem ex_at {K : PySem.W.Frag} (h : exM K = true) (i : Nat) {b : Bool} (e : (exL K)[i]? = some b := by rfl) : b = true := List.all_eq_true.mp h b (List.mem_of_getElem? e)
theorem txt_of {K : PySem.W.Frag} {mg : Str → Option Value} {hp : Heap} (X : K.In hp) (G : hp.Ns mainGlobals mg) (h0 : exM K = true) : Txt K mg where
  n_len := have h := ex_at h0 0; He.free_ok X G h
  n_isinstance := have h := ex_at h0 1; He.free_ok X G h
  n_enumerate := have h := ex_at h0 2; He.free_ok X G h
  n_range := have h := ex_at h0 3; He.free_ok X G h
  n_tuple := have h := ex_at h0 4; He.free_ok X G h
  n_list := have h := ex_at h0 5; He.free_ok X G h
  n_dict := have h := ex_at h0 6; He.free_ok X G h
  n_sorted := have h := ex_at h0 7; He.free_ok X G h
  n_all := have h := ex_at h0 8; He.free_ok X G h
  n_sum := have h := ex_at h0 9; He.free_ok X G h
  n_max := have h := ex_at h0 10; He.free_ok X G h
  n_int := have h := ex_at h0 11; He.free_ok X G h
  n_bool := have h := ex_at h0 12; He.free_ok X G h
  n_str := have h := ex_at h0 13; He.free_ok X G h
  n_min := have h := ex_at h0 14; He.free_ok X G h
  n_set := have h := ex_at h0 15; He.free_ok X G h
  k_MAX_LETTERS := have h := ex_at h0 16; int_rel (He.int_ok X G h)
  k_MAX_RANK := have h := ex_at h0 17; int_rel (He.int_ok X G h)
  k_MAX_STEPS := have h := ex_at h0 18; int_rel (He.int_ok X G h)
  k_MAX_TICKS := have h := ex_at h0 19; int_rel (He.int_ok X G h)
  k_CALLED := have h := ex_at h0 20; int_rel (He.int_ok X G h)
  k_SPUN := have h := ex_at h0 21; int_rel (He.int_ok X G h)
  k_WORKED := have h := ex_at h0 22; int_rel (He.int_ok X G h)
  k_IDLE := have h := ex_at h0 23; int_rel (He.int_ok X G h)
  k_MOST_TICKS := have h := ex_at h0 24; int_rel (He.int_ok X G h)
  k_KINDS := have h := ex_at h0 25; ⟨_, He.glo_ok X G h, rfl⟩
  v_KINDS := have h := ex_at h0 26; He.tupB_ok h
  k_ARGUMENTS := have h := ex_at h0 27; ⟨_, He.glo_ok X G h, rfl⟩
  v_ARGUMENTS := have h := ex_at h0 28; h
  f_is_integer := have h := ex_at h0 29; He.glo_ok X G h
  f_check_number := have h := ex_at h0 30; He.glo_ok X G h
  f_is_letters := have h := ex_at h0 31; He.glo_ok X G h
  f_is_name := have h := ex_at h0 32; He.glo_ok X G h
  f_is_line := have h := ex_at h0 33; He.glo_ok X G h
  f_is_work := have h := ex_at h0 34; He.glo_ok X G h
  f_is_step := have h := ex_at h0 35; He.glo_ok X G h
  f_spoilt_named := have h := ex_at h0 36; He.glo_ok X G h
  f_spoilt_line := have h := ex_at h0 37; He.glo_ok X G h
  f_spoilt_work := have h := ex_at h0 38; He.glo_ok X G h
  f_spoilt_handler := have h := ex_at h0 39; He.glo_ok X G h
  f_check_setup := have h := ex_at h0 40; He.glo_ok X G h
  f_put_changed := have h := ex_at h0 41; He.glo_ok X G h
  f_check_flag := have h := ex_at h0 42; He.glo_ok X G h
  f__law_taken := have h := ex_at h0 43; He.glo_ok X G h
  f__law_alike := have h := ex_at h0 44; He.glo_ok X G h
  f__law_mixed := have h := ex_at h0 45; He.glo_ok X G h
  f__law_step := have h := ex_at h0 46; He.glo_ok X G h
  f__law_setup := have h := ex_at h0 47; He.glo_ok X G h
  f__law_new := have h := ex_at h0 48; He.glo_ok X G h
  f__law_seen := have h := ex_at h0 49; He.glo_ok X G h
  f__law_deed := have h := ex_at h0 50; He.glo_ok X G h
  f__law_done := have h := ex_at h0 51; He.glo_ok X G h
  f_law := have h := ex_at h0 52; He.glo_ok X G h
  g_Setup := have h := ex_at h0 53; He.glo_ok X G h
  cl_Setup := have h := ex_at h0 54; He.cls_ok h
  mk_Setup := have h := ex_at h0 55; He.mkr_ok h
  t_Setup_lines := have h := ex_at h0 56; He.noat_ok h
  t_Setup_works := have h := ex_at h0 57; He.noat_ok h
  t_Setup_by_name := have h := ex_at h0 58; He.noat_ok h
  t_Setup_order := have h := ex_at h0 59; He.noat_ok h
  g_Board := have h := ex_at h0 60; He.glo_ok X G h
  cl_Board := have h := ex_at h0 61; He.cls_ok h
  mk_Board := have h := ex_at h0 62; He.mkr_ok h
  t_Board_setup := have h := ex_at h0 63; He.noat_ok h
  t_Board_rung := have h := ex_at h0 64; He.noat_ok h
  t_Board_disabled := have h := ex_at h0 65; He.noat_ok h
  t_Board_under_way := have h := ex_at h0 66; He.noat_ok h
  t_Board_flags := have h := ex_at h0 67; He.noat_ok h
  t_Board_merges := have h := ex_at h0 68; He.noat_ok h
  g_WorkQueue := have h := ex_at h0 69; He.glo_ok X G h
  cl_WorkQueue := have h := ex_at h0 70; He.cls_ok h
  mk_WorkQueue := have h := ex_at h0 71; He.mkr_ok h
  t_WorkQueue_ranks := have h := ex_at h0 72; He.noat_ok h
  t_WorkQueue_lengths := have h := ex_at h0 73; He.noat_ok h
  t_WorkQueue_rows := have h := ex_at h0 74; He.noat_ok h
  g_Processor := have h := ex_at h0 75; He.glo_ok X G h
  cl_Processor := have h := ex_at h0 76; He.cls_ok h
  mk_Processor := have h := ex_at h0 77; He.mkr_ok h
  t_Processor_setup := have h := ex_at h0 78; He.noat_ok h
  t_Processor_board := have h := ex_at h0 79; He.noat_ok h
  t_Processor_bar := have h := ex_at h0 80; He.noat_ok h
  t_Processor_stack := have h := ex_at h0 81; He.noat_ok h
  t_Processor_jobs := have h := ex_at h0 82; He.noat_ok h
  t_Processor_counts := have h := ex_at h0 83; He.noat_ok h
  g_Single := have h := ex_at h0 84; He.glo_ok X G h
  cl_Single := have h := ex_at h0 85; He.cls_ok h
  mk_Single := have h := ex_at h0 86; He.mkr_ok h
  t_Single_setup := have h := ex_at h0 87; He.noat_ok h
  t_Single_board := have h := ex_at h0 88; He.noat_ok h
  t_Single_processor := have h := ex_at h0 89; He.noat_ok h
  t_Single_now := have h := ex_at h0 90; He.noat_ok h
  m_Setup_contains := have h := ex_at h0 91; He.meth_ok h
  m_Setup_getitem := have h := ex_at h0 92; He.meth_ok h
  m_Setup_eq := have h := ex_at h0 93; He.meth_ok h
  m_Setup_sub := have h := ex_at h0 94; He.meth_ok h
  m_Board_copied_board := have h := ex_at h0 95; He.meth_ok h
  m_Board_take_over := have h := ex_at h0 96; He.meth_ok h
  m_Board_check_line := have h := ex_at h0 97; He.meth_ok h
  m_Board_is_edge := have h := ex_at h0 98; He.meth_ok h
  m_Board_ring := have h := ex_at h0 99; He.meth_ok h
  m_Board_quiet := have h := ex_at h0 100; He.meth_ok h
  m_Board_mask := have h := ex_at h0 101; He.meth_ok h
  m_Board_unmask := have h := ex_at h0 102; He.meth_ok h
  m_Board_set_flag := have h := ex_at h0 103; He.meth_ok h
  m_Board_clear_flag := have h := ex_at h0 104; He.meth_ok h
  m_Board_act := have h := ex_at h0 105; He.meth_ok h
  m_Board_begin := have h := ex_at h0 106; He.meth_ok h
  m_Board_end := have h := ex_at h0 107; He.meth_ok h
  m_Board_is_up := have h := ex_at h0 108; He.meth_ok h
  m_Board_is_enabled := have h := ex_at h0 109; He.meth_ok h
  m_Board_is_high := have h := ex_at h0 110; He.meth_ok h
  m_Board_waits := have h := ex_at h0 111; He.meth_ok h
  m_Board_waiting_lines := have h := ex_at h0 112; He.meth_ok h
  m_Board_ready_lines := have h := ex_at h0 113; He.meth_ok h
  m_Board_disabled_lines := have h := ex_at h0 114; He.meth_ok h
  m_Board_high_lines := have h := ex_at h0 115; He.meth_ok h
  m_Board_raised_flags := have h := ex_at h0 116; He.meth_ok h
  m_Board_board_state := have h := ex_at h0 117; He.meth_ok h
  m_WorkQueue_copy_rows := have h := ex_at h0 118; He.meth_ok h
  m_WorkQueue_rows := have h := ex_at h0 119; He.meth_ok h
  m_WorkQueue_is_empty := have h := ex_at h0 120; He.meth_ok h
  m_WorkQueue_put := have h := ex_at h0 121; He.meth_ok h
  m_WorkQueue_spend := have h := ex_at h0 122; He.meth_ok h
  m_Processor_copied_onto := have h := ex_at h0 123; He.meth_ok h
  m_Processor_take := have h := ex_at h0 124; He.meth_ok h
  m_Processor_go_on := have h := ex_at h0 125; He.meth_ok h
  m_Processor_bar_now := have h := ex_at h0 126; He.meth_ok h
  m_Processor_call_rows := have h := ex_at h0 127; He.meth_ok h
  m_Processor_work_rows := have h := ex_at h0 128; He.meth_ok h
  m_Processor_spent_ticks := have h := ex_at h0 129; He.meth_ok h
  m_Processor_processor_state := have h := ex_at h0 130; He.meth_ok h
  m_Processor_lets_by := have h := ex_at h0 131; He.meth_ok h
  m_Processor_present_step := have h := ex_at h0 132; He.meth_ok h
  m_Processor_passes_flag := have h := ex_at h0 133; He.meth_ok h
  m_Processor_takes_no_tick := have h := ex_at h0 134; He.meth_ok h
  m_Processor_act := have h := ex_at h0 135; He.meth_ok h
  m_Processor_go_through := have h := ex_at h0 136; He.meth_ok h
  m_Processor_spend := have h := ex_at h0 137; He.meth_ok h
  m_Processor_spend_beside_calls := have h := ex_at h0 138; He.meth_ok h
  m_Single_eq := have h := ex_at h0 139; He.meth_ok h
  m_Single_told := have h := ex_at h0 140; He.meth_ok h
  m_Single_state := have h := ex_at h0 141; He.meth_ok h
  m_Single_copied := have h := ex_at h0 142; He.meth_ok h
  m_Single_ring := have h := ex_at h0 143; He.meth_ok h
  m_Single_quiet := have h := ex_at h0 144; He.meth_ok h
  m_Single_mask := have h := ex_at h0 145; He.meth_ok h
  m_Single_unmask := have h := ex_at h0 146; He.meth_ok h
  m_Single_set_flag := have h := ex_at h0 147; He.meth_ok h
  m_Single_clear_flag := have h := ex_at h0 148; He.meth_ok h
  m_Single_tick := have h := ex_at h0 149; He.meth_ok h
  p_Setup_lines := have h := ex_at h0 150; propB_ok h
  p_Setup_works := have h := ex_at h0 151; propB_ok h
  p_Setup_order := have h := ex_at h0 152; propB_ok h
  p_Single_now := have h := ex_at h0 153; propB_ok h
  p_Single_waiting := have h := ex_at h0 154; propB_ok h
  p_Single_calls := have h := ex_at h0 155; propB_ok h
  p_Single_queue := have h := ex_at h0 156; propB_ok h
  p_Single_flags_up := have h := ex_at h0 157; propB_ok h
  p_Single_bar := have h := ex_at h0 158; propB_ok h
  p_Single_masked := have h := ex_at h0 159; propB_ok h
  p_Single_highs := have h := ex_at h0 160; propB_ok h
  p_Single_spent := have h := ex_at h0 161; propB_ok h
  r_Setup := have h := ex_at h0 162; creadB_ok h
  c_Setup_MAX_LINES := have h := ex_at h0 163; cvalB_ok h
  c_Setup_MAX_WORKS := have h := ex_at h0 164; cvalB_ok h
  c_Setup_MAX_FLAG := have h := ex_at h0 165; cvalB_ok h
  d_Setup := have h := ex_at h0 166; tupAtB_ok h
  i_getitem := have h := ex_at h0 167; h
  x_sub := have h := ex_at h0 168; h
  x_rsub := have h := ex_at h0 169; He.eqO_ok h
  i_Setup := have h := ex_at h0 170; insB_ok (He.ba h)
  i_Single := have h := ex_at h0 171; insB_ok (He.ba h)
  q_list := have h := ex_at h0 172; of_decide_eq_true h
  q_setup := have h := ex_at h0 173; of_decide_eq_true h
structure FnP (P : Program) (w : World) (K : PySem.W.Frag) (mg : Str → Option Value) (base : Heap) (k : Nat) (f : Addr) (sp : Sp) : Prop where
  ex : ∃ (fd : FuncData) (ps : List Str), FnOk P w K mg base CX0 k f fd ps sp ∧ Binds K fd ps []
theorem fun_c8 {K : PySem.W.Frag} {x qual : Str} {st : Stmt} {f : Addr} {fd : FuncData} {dvs : List V} {kws : List (Str × V)} (F : FunD K x qual (C8.fnArgs st) (C8.fnBody st) (C8.fnScope st) dvs kws f fd) : C8.Fun K x qual st f fd := by
  obtain ⟨oc, od, dV, kV, doc, pm, an, cdv, ct, osl, e, l, c, _⟩ := F.ex
  exact ⟨oc, od, dV, kV, doc, pm, an, cdv, ct, osl, e, l, c⟩
theorem fnP_mk {P : Program} {w : World} {K : PySem.W.Frag} {mg : Str → Option Value} {base : Heap} {m qual : Str} {st : Stmt} {f : Addr} {fd : FuncData} {N ps : List Str} {k : Nat} {sp : Sp} (F : C8.Fun K m qual st f fd) (b : Binds K fd ps []) (S : FnScope N ps (C8.fnScope st))
    (len : ∀ vs H Q E, sp vs H Q E → vs.length = ps.length)
    (hbody : ∀ (cdv : Value) (A : Around) (outer : List Env) (s : Shared) (H : Hp) (vs : List V) (Q : VK) (E : XK), Room k (A.deeper (envOfC qual (C8.fnScope st) s.heap.objs.size f cdv)) → sp vs H Q E →
      ∃ t, PSs (cxOf CX0 P w K mg base N qual (C8.fnScope st) f cdv A outer s H E).nox (C8.fnBody st) t ∧ t { nx := fun _ H' => Q .non H', rt := Q } (start N vs) H) : FnP P w K mg base (k + 1) f sp :=
  ⟨fd, ps, C8.fn0 F S len hbody, b⟩
end Cb

namespace Cb
open PySem PySem.Spec PyProof.Rows L2
abbrev AlM : Type := (Bool × List He5.FnW) × List (Option (List (Option (Str × Int))))
def obsM (ex : PySem.W.Frag → Bool) (fn : List He5.DefA) (ts : List He.Tab) (K : PySem.W.Frag) : AlM := ((ex K && fn.all fun d => d.ok K, fn.map fun d => He5.fnA K (d.at_ K)), ts.map fun t => He.dicW K (t.1 K))
def valM (fn : List He5.DefA) (ts : List He.Tab) (w : World) : AlM := ((true, fn.map He5.DefA.val), ts.map fun t => some (He.keysIn w.params t.2))
def SaysM (ex : PySem.W.Frag → Bool) (fn : List He5.DefA) (ts : List He.Tab) (w : World) (K : PySem.W.Frag) : Prop := obsM ex fn ts K = valM fn ts w
def asL : List Addr := [3, 2, 31, 53, 74, 95, 107, 119, 322, 518, 578, 730, 933, 30, 52, 73, 94, 106, 118, 321, 517, 577, 729, 932, 21, 20, 130, 129, 137, 136, 144, 143, 151, 150, 158, 157, 165, 164, 172, 171, 179, 178, 184, 183, 189, 188, 194, 193, 333, 332, 340, 339, 347, 346, 944, 943, 949, 948, 956, 955, 963, 962, 968, 967, 973, 972, 980, 979, 985, 984, 992, 991, 997, 996, 50, 49, 71, 70, 92, 91, 208, 207, 225, 224, 232, 231, 239, 238, 246, 245, 253, 252, 258, 257, 305, 304, 312, 311, 319, 318, 359, 358, 366, 365, 373, 372, 380, 379, 387, 386, 394, 393, 401, 400, 408, 407, 415, 414, 422, 421, 429, 428, 436, 435, 443, 442, 450, 449, 457, 456, 464, 463, 471, 470, 478, 477, 483, 482, 488, 487, 493, 492, 498, 497, 505, 504, 510, 509, 515, 514, 534, 533, 541, 540, 548, 547, 555, 554, 561, 560, 568, 567, 575, 574, 596, 595, 603, 602, 610, 609, 617, 616, 624, 623, 629, 628, 636, 635, 643, 642, 650, 649, 657, 656, 664, 663, 671, 670, 678, 677, 685, 684, 692, 691, 699, 698, 706, 705, 713, 712, 720, 719, 727, 726, 748, 747, 755, 754, 762, 761, 769, 768, 776, 775, 783, 782, 790, 789, 797, 796, 804, 803, 811, 810, 818, 817, 825, 824, 832, 831, 839, 838, 846, 845, 853, 852, 858, 857, 215, 214, 265, 264, 273, 272, 281, 280, 289, 288, 297, 296, 865, 864, 873, 872, 881, 880, 889, 888, 897, 896, 905, 904, 913, 912, 921, 920, 929, 928, 6, 4, 122, 123, 29, 32, 51, 72, 93, 105, 117, 217, 266, 274, 282, 290, 298, 320, 323, 324, 516, 519, 520, 576, 579, 580, 728, 731, 732, 866, 874, 882, 890, 898, 906, 914, 922, 930, 931, 934, 935, 38, 59, 80, 203, 556, 202]
def obsMG (n : Nat) (ex : PySem.W.Frag → Bool) (fn : List He5.DefA) (ts : List He.Tab) (g : Addr → Option Obj) : AlM := obsM ex fn ts (He.frG g asL)
def hookM (n : Nat) (ex : PySem.W.Frag → Bool) (fn : List He5.DefA) (ts : List He.Tab) : PySem.W.Hook where
  α := AlM
  obs := fun s => obsMG n ex fn ts s.heap.get?
  val := fun w => valM fn ts w
  says := fun w h => ∃ K : PySem.W.Frag, K.In h ∧ SaysM ex fn ts w K
  of := fun _ _ e => ⟨_, He.frG_in, e⟩
  keeps := fun _ _ _ ⟨K, hK, c⟩ k => ⟨K, PySem.W.Frag.In.keeps hK k, c⟩
theorem obsMG_eq {n : Nat} {ex : PySem.W.Frag → Bool} {fn : List He5.DefA} {ts : List He.Tab} {g : Addr → Option Obj} {s : Shared} (h : ∀ a, g a = s.heap.get? a) : obsMG n ex fn ts g = (hookM n ex fn ts).obs s := by
  have e : g = s.heap.get? := funext h
  rw [e] <;> rfl
section
variable {ex : PySem.W.Frag → Bool} {fn : List He5.DefA} {ts : List He.Tab} {w : World} {K : PySem.W.Frag}
theorem SaysM.exok (c : SaysM ex fn ts w K) : ex K = true := (He.ba (show (ex K && fn.all fun d => d.ok K) = true from congrArg (fun z : AlM => z.1.1) c)).1
theorem SaysM.def_ (c : SaysM ex fn ts w K) (i : Nat) {d : He5.DefA} (h : fn[i]? = some d := by rfl) : ∃ fd, FunD K d.name d.qual d.params d.body d.scope (d.dvs K) (d.kws K) (d.at_ K) fd := by
  have c2 := (He.ba (show (ex K && fn.all fun d => d.ok K) = true from congrArg (fun z : AlM => z.1.1) c)).2
  have e : fn.map (fun d => He5.fnA K (d.at_ K)) = fn.map He5.DefA.val := congrArg (fun z : AlM => z.1.2) c
  have e2 : (fn.map fun d => He5.fnA K (d.at_ K))[i]? = (fn.map He5.DefA.val)[i]? := by rw [e]
  rw [List.getElem?_map, List.getElem?_map, h] at e2
  exact He5.DefA.funD (Option.some.inj e2) (List.all_eq_true.mp c2 d (List.mem_of_getElem? h))
theorem SaysM.tab (c : SaysM ex fn ts w K) (i : Nat) {t : He.Tab} (h : ts[i]? = some t := by rfl) : ∃ es n, KDict K w (t.1 K) es n := by
  have e : ts.map (fun t => He.dicW K (t.1 K)) = ts.map fun t => some (He.keysIn w.params t.2) := congrArg (fun z : AlM => z.2) c
  have e2 : (ts.map fun t => He.dicW K (t.1 K))[i]? = (ts.map fun t => some (He.keysIn w.params t.2))[i]? := by rw [e]
  rw [List.getElem?_map, List.getElem?_map, h] at e2
  exact He.dicW_ok (Option.some.inj e2)
end

def D_is_integer : He5.DefA := ⟨fun K => He.ga K "is_integer", "is_integer", "is_integer", C8.fnArgs s_is_integer, C8.fnBody s_is_integer, C8.fnScope s_is_integer, [], []⟩
def D_check_number : He5.DefA := ⟨fun K => He.ga K "check_number", "check_number", "check_number", C8.fnArgs s_check_number, C8.fnBody s_check_number, C8.fnScope s_check_number, [], []⟩
def D_is_letters : He5.DefA := ⟨fun K => He.ga K "is_letters", "is_letters", "is_letters", C8.fnArgs s_is_letters, C8.fnBody s_is_letters, C8.fnScope s_is_letters, [], []⟩
def D_is_name : He5.DefA := ⟨fun K => He.ga K "is_name", "is_name", "is_name", C8.fnArgs s_is_name, C8.fnBody s_is_name, C8.fnScope s_is_name, [], []⟩
def D_is_line : He5.DefA := ⟨fun K => He.ga K "is_line", "is_line", "is_line", C8.fnArgs s_is_line, C8.fnBody s_is_line, C8.fnScope s_is_line, [], []⟩
def D_is_work : He5.DefA := ⟨fun K => He.ga K "is_work", "is_work", "is_work", C8.fnArgs s_is_work, C8.fnBody s_is_work, C8.fnScope s_is_work, [], []⟩
def D_is_step : He5.DefA := ⟨fun K => He.ga K "is_step", "is_step", "is_step", C8.fnArgs s_is_step, C8.fnBody s_is_step, C8.fnScope s_is_step, [], []⟩
def D_spoilt_named : He5.DefA := ⟨fun K => He.ga K "spoilt_named", "spoilt_named", "spoilt_named", C8.fnArgs s_spoilt_named, C8.fnBody s_spoilt_named, C8.fnScope s_spoilt_named, [], []⟩
def D_spoilt_line : He5.DefA := ⟨fun K => He.ga K "spoilt_line", "spoilt_line", "spoilt_line", C8.fnArgs s_spoilt_line, C8.fnBody s_spoilt_line, C8.fnScope s_spoilt_line, [], []⟩
def D_spoilt_work : He5.DefA := ⟨fun K => He.ga K "spoilt_work", "spoilt_work", "spoilt_work", C8.fnArgs s_spoilt_work, C8.fnBody s_spoilt_work, C8.fnScope s_spoilt_work, [], []⟩
def D_spoilt_handler : He5.DefA := ⟨fun K => He.ga K "spoilt_handler", "spoilt_handler", "spoilt_handler", C8.fnArgs s_spoilt_handler, C8.fnBody s_spoilt_handler, C8.fnScope s_spoilt_handler, [], []⟩
def D_Setup_init : He5.DefA := ⟨fun K => He.ma K (He.ga K "Setup") "__init__", "__init__", "Setup.__init__", C8.fnArgs s_Setup_init, C8.fnBody s_Setup_init, C8.fnScope s_Setup_init, [.adr (He.dflAt ("Setup", some "__init__") 0)], []⟩
def D_Setup_contains : He5.DefA := ⟨fun K => He.ma K (He.ga K "Setup") "__contains__", "__contains__", "Setup.__contains__", C8.fnArgs s_Setup_contains, C8.fnBody s_Setup_contains, C8.fnScope s_Setup_contains, [], []⟩
def D_Setup_getitem : He5.DefA := ⟨fun K => He.ma K (He.ga K "Setup") "__getitem__", "__getitem__", "Setup.__getitem__", C8.fnArgs s_Setup_getitem, C8.fnBody s_Setup_getitem, C8.fnScope s_Setup_getitem, [], []⟩
def D_Setup_eq : He5.DefA := ⟨fun K => He.ma K (He.ga K "Setup") "__eq__", "__eq__", "Setup.__eq__", C8.fnArgs s_Setup_eq, C8.fnBody s_Setup_eq, C8.fnScope s_Setup_eq, [], []⟩
def D_Setup_sub : He5.DefA := ⟨fun K => He.ma K (He.ga K "Setup") "__sub__", "__sub__", "Setup.__sub__", C8.fnArgs s_Setup_sub, C8.fnBody s_Setup_sub, C8.fnScope s_Setup_sub, [], []⟩
def D_Setup_lines : He5.DefA := ⟨prA "Setup" "lines", "lines", "Setup.lines", C8.fnArgs s_Setup_lines, C8.fnBody s_Setup_lines, C8.fnScope s_Setup_lines, [], []⟩
def D_Setup_works : He5.DefA := ⟨prA "Setup" "works", "works", "Setup.works", C8.fnArgs s_Setup_works, C8.fnBody s_Setup_works, C8.fnScope s_Setup_works, [], []⟩
def D_Setup_order : He5.DefA := ⟨prA "Setup" "order", "order", "Setup.order", C8.fnArgs s_Setup_order, C8.fnBody s_Setup_order, C8.fnScope s_Setup_order, [], []⟩
def D_check_setup : He5.DefA := ⟨fun K => He.ga K "check_setup", "check_setup", "check_setup", C8.fnArgs s_check_setup, C8.fnBody s_check_setup, C8.fnScope s_check_setup, [], []⟩
def D_put_changed : He5.DefA := ⟨fun K => He.ga K "put_changed", "put_changed", "put_changed", C8.fnArgs s_put_changed, C8.fnBody s_put_changed, C8.fnScope s_put_changed, [], []⟩
def D_check_flag : He5.DefA := ⟨fun K => He.ga K "check_flag", "check_flag", "check_flag", C8.fnArgs s_check_flag, C8.fnBody s_check_flag, C8.fnScope s_check_flag, [], []⟩
def D_Board_init : He5.DefA := ⟨fun K => He.ma K (He.ga K "Board") "__init__", "__init__", "Board.__init__", C8.fnArgs s_Board_init, C8.fnBody s_Board_init, C8.fnScope s_Board_init, [], []⟩
def D_Board_copied_board : He5.DefA := ⟨fun K => He.ma K (He.ga K "Board") "copied_board", "copied_board", "Board.copied_board", C8.fnArgs s_Board_copied_board, C8.fnBody s_Board_copied_board, C8.fnScope s_Board_copied_board, [], []⟩
def D_Board_take_over : He5.DefA := ⟨fun K => He.ma K (He.ga K "Board") "take_over", "take_over", "Board.take_over", C8.fnArgs s_Board_take_over, C8.fnBody s_Board_take_over, C8.fnScope s_Board_take_over, [], []⟩
def D_Board_check_line : He5.DefA := ⟨fun K => He.ma K (He.ga K "Board") "_check_line", "_check_line", "Board._check_line", C8.fnArgs s_Board_check_line, C8.fnBody s_Board_check_line, C8.fnScope s_Board_check_line, [], []⟩
def D_Board_is_edge : He5.DefA := ⟨fun K => He.ma K (He.ga K "Board") "_is_edge", "_is_edge", "Board._is_edge", C8.fnArgs s_Board_is_edge, C8.fnBody s_Board_is_edge, C8.fnScope s_Board_is_edge, [], []⟩
def D_Board_ring : He5.DefA := ⟨fun K => He.ma K (He.ga K "Board") "ring", "ring", "Board.ring", C8.fnArgs s_Board_ring, C8.fnBody s_Board_ring, C8.fnScope s_Board_ring, [], []⟩
def D_Board_quiet : He5.DefA := ⟨fun K => He.ma K (He.ga K "Board") "quiet", "quiet", "Board.quiet", C8.fnArgs s_Board_quiet, C8.fnBody s_Board_quiet, C8.fnScope s_Board_quiet, [], []⟩
def D_Board_mask : He5.DefA := ⟨fun K => He.ma K (He.ga K "Board") "mask", "mask", "Board.mask", C8.fnArgs s_Board_mask, C8.fnBody s_Board_mask, C8.fnScope s_Board_mask, [], []⟩
def D_Board_unmask : He5.DefA := ⟨fun K => He.ma K (He.ga K "Board") "unmask", "unmask", "Board.unmask", C8.fnArgs s_Board_unmask, C8.fnBody s_Board_unmask, C8.fnScope s_Board_unmask, [], []⟩
def D_Board_set_flag : He5.DefA := ⟨fun K => He.ma K (He.ga K "Board") "set_flag", "set_flag", "Board.set_flag", C8.fnArgs s_Board_set_flag, C8.fnBody s_Board_set_flag, C8.fnScope s_Board_set_flag, [], []⟩
def D_Board_clear_flag : He5.DefA := ⟨fun K => He.ma K (He.ga K "Board") "clear_flag", "clear_flag", "Board.clear_flag", C8.fnArgs s_Board_clear_flag, C8.fnBody s_Board_clear_flag, C8.fnScope s_Board_clear_flag, [], []⟩
def D_Board_act : He5.DefA := ⟨fun K => He.ma K (He.ga K "Board") "act", "act", "Board.act", C8.fnArgs s_Board_act, C8.fnBody s_Board_act, C8.fnScope s_Board_act, [], []⟩
def D_Board_begin : He5.DefA := ⟨fun K => He.ma K (He.ga K "Board") "begin", "begin", "Board.begin", C8.fnArgs s_Board_begin, C8.fnBody s_Board_begin, C8.fnScope s_Board_begin, [], []⟩
def D_Board_end : He5.DefA := ⟨fun K => He.ma K (He.ga K "Board") "end", "end", "Board.end", C8.fnArgs s_Board_end, C8.fnBody s_Board_end, C8.fnScope s_Board_end, [], []⟩
def D_Board_is_up : He5.DefA := ⟨fun K => He.ma K (He.ga K "Board") "is_up", "is_up", "Board.is_up", C8.fnArgs s_Board_is_up, C8.fnBody s_Board_is_up, C8.fnScope s_Board_is_up, [], []⟩
def D_Board_is_enabled : He5.DefA := ⟨fun K => He.ma K (He.ga K "Board") "is_enabled", "is_enabled", "Board.is_enabled", C8.fnArgs s_Board_is_enabled, C8.fnBody s_Board_is_enabled, C8.fnScope s_Board_is_enabled, [], []⟩
def D_Board_is_high : He5.DefA := ⟨fun K => He.ma K (He.ga K "Board") "is_high", "is_high", "Board.is_high", C8.fnArgs s_Board_is_high, C8.fnBody s_Board_is_high, C8.fnScope s_Board_is_high, [], []⟩
def D_Board_waits : He5.DefA := ⟨fun K => He.ma K (He.ga K "Board") "waits", "waits", "Board.waits", C8.fnArgs s_Board_waits, C8.fnBody s_Board_waits, C8.fnScope s_Board_waits, [], []⟩
def D_Board_waiting_lines : He5.DefA := ⟨fun K => He.ma K (He.ga K "Board") "waiting_lines", "waiting_lines", "Board.waiting_lines", C8.fnArgs s_Board_waiting_lines, C8.fnBody s_Board_waiting_lines, C8.fnScope s_Board_waiting_lines, [], []⟩
def D_Board_ready_lines : He5.DefA := ⟨fun K => He.ma K (He.ga K "Board") "ready_lines", "ready_lines", "Board.ready_lines", C8.fnArgs s_Board_ready_lines, C8.fnBody s_Board_ready_lines, C8.fnScope s_Board_ready_lines, [], []⟩
def D_Board_disabled_lines : He5.DefA := ⟨fun K => He.ma K (He.ga K "Board") "disabled_lines", "disabled_lines", "Board.disabled_lines", C8.fnArgs s_Board_disabled_lines, C8.fnBody s_Board_disabled_lines, C8.fnScope s_Board_disabled_lines, [], []⟩
def D_Board_high_lines : He5.DefA := ⟨fun K => He.ma K (He.ga K "Board") "high_lines", "high_lines", "Board.high_lines", C8.fnArgs s_Board_high_lines, C8.fnBody s_Board_high_lines, C8.fnScope s_Board_high_lines, [], []⟩
def D_Board_raised_flags : He5.DefA := ⟨fun K => He.ma K (He.ga K "Board") "raised_flags", "raised_flags", "Board.raised_flags", C8.fnArgs s_Board_raised_flags, C8.fnBody s_Board_raised_flags, C8.fnScope s_Board_raised_flags, [], []⟩
def D_Board_board_state : He5.DefA := ⟨fun K => He.ma K (He.ga K "Board") "board_state", "board_state", "Board.board_state", C8.fnArgs s_Board_board_state, C8.fnBody s_Board_board_state, C8.fnScope s_Board_board_state, [], []⟩
def D_WorkQueue_init : He5.DefA := ⟨fun K => He.ma K (He.ga K "WorkQueue") "__init__", "__init__", "WorkQueue.__init__", C8.fnArgs s_WorkQueue_init, C8.fnBody s_WorkQueue_init, C8.fnScope s_WorkQueue_init, [], []⟩
def D_WorkQueue_copy_rows : He5.DefA := ⟨fun K => He.ma K (He.ga K "WorkQueue") "copy_rows", "copy_rows", "WorkQueue.copy_rows", C8.fnArgs s_WorkQueue_copy_rows, C8.fnBody s_WorkQueue_copy_rows, C8.fnScope s_WorkQueue_copy_rows, [], []⟩
def D_WorkQueue_rows : He5.DefA := ⟨fun K => He.ma K (He.ga K "WorkQueue") "rows", "rows", "WorkQueue.rows", C8.fnArgs s_WorkQueue_rows, C8.fnBody s_WorkQueue_rows, C8.fnScope s_WorkQueue_rows, [], []⟩
def D_WorkQueue_is_empty : He5.DefA := ⟨fun K => He.ma K (He.ga K "WorkQueue") "is_empty", "is_empty", "WorkQueue.is_empty", C8.fnArgs s_WorkQueue_is_empty, C8.fnBody s_WorkQueue_is_empty, C8.fnScope s_WorkQueue_is_empty, [], []⟩
def D_WorkQueue_put : He5.DefA := ⟨fun K => He.ma K (He.ga K "WorkQueue") "put", "put", "WorkQueue.put", C8.fnArgs s_WorkQueue_put, C8.fnBody s_WorkQueue_put, C8.fnScope s_WorkQueue_put, [.int 0], []⟩
def D_WorkQueue_spend : He5.DefA := ⟨fun K => He.ma K (He.ga K "WorkQueue") "spend", "spend", "WorkQueue.spend", C8.fnArgs s_WorkQueue_spend, C8.fnBody s_WorkQueue_spend, C8.fnScope s_WorkQueue_spend, [], []⟩
def D_Processor_init : He5.DefA := ⟨fun K => He.ma K (He.ga K "Processor") "__init__", "__init__", "Processor.__init__", C8.fnArgs s_Processor_init, C8.fnBody s_Processor_init, C8.fnScope s_Processor_init, [], []⟩
def D_Processor_copied_onto : He5.DefA := ⟨fun K => He.ma K (He.ga K "Processor") "copied_onto", "copied_onto", "Processor.copied_onto", C8.fnArgs s_Processor_copied_onto, C8.fnBody s_Processor_copied_onto, C8.fnScope s_Processor_copied_onto, [], []⟩
def D_Processor_take : He5.DefA := ⟨fun K => He.ma K (He.ga K "Processor") "take", "take", "Processor.take", C8.fnArgs s_Processor_take, C8.fnBody s_Processor_take, C8.fnScope s_Processor_take, [], []⟩
def D_Processor_go_on : He5.DefA := ⟨fun K => He.ma K (He.ga K "Processor") "go_on", "go_on", "Processor.go_on", C8.fnArgs s_Processor_go_on, C8.fnBody s_Processor_go_on, C8.fnScope s_Processor_go_on, [], []⟩
def D_Processor_bar_now : He5.DefA := ⟨fun K => He.ma K (He.ga K "Processor") "bar_now", "bar_now", "Processor.bar_now", C8.fnArgs s_Processor_bar_now, C8.fnBody s_Processor_bar_now, C8.fnScope s_Processor_bar_now, [], []⟩
def D_Processor_call_rows : He5.DefA := ⟨fun K => He.ma K (He.ga K "Processor") "call_rows", "call_rows", "Processor.call_rows", C8.fnArgs s_Processor_call_rows, C8.fnBody s_Processor_call_rows, C8.fnScope s_Processor_call_rows, [], []⟩
def D_Processor_work_rows : He5.DefA := ⟨fun K => He.ma K (He.ga K "Processor") "work_rows", "work_rows", "Processor.work_rows", C8.fnArgs s_Processor_work_rows, C8.fnBody s_Processor_work_rows, C8.fnScope s_Processor_work_rows, [], []⟩
def D_Processor_spent_ticks : He5.DefA := ⟨fun K => He.ma K (He.ga K "Processor") "spent_ticks", "spent_ticks", "Processor.spent_ticks", C8.fnArgs s_Processor_spent_ticks, C8.fnBody s_Processor_spent_ticks, C8.fnScope s_Processor_spent_ticks, [], []⟩
def D_Processor_processor_state : He5.DefA := ⟨fun K => He.ma K (He.ga K "Processor") "processor_state", "processor_state", "Processor.processor_state", C8.fnArgs s_Processor_processor_state, C8.fnBody s_Processor_processor_state, C8.fnScope s_Processor_processor_state, [], []⟩
def D_Processor_lets_by : He5.DefA := ⟨fun K => He.ma K (He.ga K "Processor") "_lets_by", "_lets_by", "Processor._lets_by", C8.fnArgs s_Processor_lets_by, C8.fnBody s_Processor_lets_by, C8.fnScope s_Processor_lets_by, [], []⟩
def D_Processor_present_step : He5.DefA := ⟨fun K => He.ma K (He.ga K "Processor") "_present_step", "_present_step", "Processor._present_step", C8.fnArgs s_Processor_present_step, C8.fnBody s_Processor_present_step, C8.fnScope s_Processor_present_step, [], []⟩
def D_Processor_passes_flag : He5.DefA := ⟨fun K => He.ma K (He.ga K "Processor") "_passes_flag", "_passes_flag", "Processor._passes_flag", C8.fnArgs s_Processor_passes_flag, C8.fnBody s_Processor_passes_flag, C8.fnScope s_Processor_passes_flag, [], []⟩
def D_Processor_takes_no_tick : He5.DefA := ⟨fun K => He.ma K (He.ga K "Processor") "_takes_no_tick", "_takes_no_tick", "Processor._takes_no_tick", C8.fnArgs s_Processor_takes_no_tick, C8.fnBody s_Processor_takes_no_tick, C8.fnScope s_Processor_takes_no_tick, [], []⟩
def D_Processor_act : He5.DefA := ⟨fun K => He.ma K (He.ga K "Processor") "_act", "_act", "Processor._act", C8.fnArgs s_Processor_act, C8.fnBody s_Processor_act, C8.fnScope s_Processor_act, [], []⟩
def D_Processor_go_through : He5.DefA := ⟨fun K => He.ma K (He.ga K "Processor") "_go_through", "_go_through", "Processor._go_through", C8.fnArgs s_Processor_go_through, C8.fnBody s_Processor_go_through, C8.fnScope s_Processor_go_through, [], []⟩
def D_Processor_spend : He5.DefA := ⟨fun K => He.ma K (He.ga K "Processor") "_spend", "_spend", "Processor._spend", C8.fnArgs s_Processor_spend, C8.fnBody s_Processor_spend, C8.fnScope s_Processor_spend, [], []⟩
def D_Processor_spend_beside_calls : He5.DefA := ⟨fun K => He.ma K (He.ga K "Processor") "_spend_beside_calls", "_spend_beside_calls", "Processor._spend_beside_calls", C8.fnArgs s_Processor_spend_beside_calls, C8.fnBody s_Processor_spend_beside_calls, C8.fnScope s_Processor_spend_beside_calls, [], []⟩
def D_Single_init : He5.DefA := ⟨fun K => He.ma K (He.ga K "Single") "__init__", "__init__", "Single.__init__", C8.fnArgs s_Single_init, C8.fnBody s_Single_init, C8.fnScope s_Single_init, [], []⟩
def D_Single_eq : He5.DefA := ⟨fun K => He.ma K (He.ga K "Single") "__eq__", "__eq__", "Single.__eq__", C8.fnArgs s_Single_eq, C8.fnBody s_Single_eq, C8.fnScope s_Single_eq, [], []⟩
def D_Single_told : He5.DefA := ⟨fun K => He.ma K (He.ga K "Single") "_told", "_told", "Single._told", C8.fnArgs s_Single_told, C8.fnBody s_Single_told, C8.fnScope s_Single_told, [], []⟩
def D_Single_state : He5.DefA := ⟨fun K => He.ma K (He.ga K "Single") "state", "state", "Single.state", C8.fnArgs s_Single_state, C8.fnBody s_Single_state, C8.fnScope s_Single_state, [], []⟩
def D_Single_copied : He5.DefA := ⟨fun K => He.ma K (He.ga K "Single") "copied", "copied", "Single.copied", C8.fnArgs s_Single_copied, C8.fnBody s_Single_copied, C8.fnScope s_Single_copied, [], []⟩
def D_Single_ring : He5.DefA := ⟨fun K => He.ma K (He.ga K "Single") "ring", "ring", "Single.ring", C8.fnArgs s_Single_ring, C8.fnBody s_Single_ring, C8.fnScope s_Single_ring, [], []⟩
def D_Single_quiet : He5.DefA := ⟨fun K => He.ma K (He.ga K "Single") "quiet", "quiet", "Single.quiet", C8.fnArgs s_Single_quiet, C8.fnBody s_Single_quiet, C8.fnScope s_Single_quiet, [], []⟩
def D_Single_mask : He5.DefA := ⟨fun K => He.ma K (He.ga K "Single") "mask", "mask", "Single.mask", C8.fnArgs s_Single_mask, C8.fnBody s_Single_mask, C8.fnScope s_Single_mask, [], []⟩
def D_Single_unmask : He5.DefA := ⟨fun K => He.ma K (He.ga K "Single") "unmask", "unmask", "Single.unmask", C8.fnArgs s_Single_unmask, C8.fnBody s_Single_unmask, C8.fnScope s_Single_unmask, [], []⟩
def D_Single_set_flag : He5.DefA := ⟨fun K => He.ma K (He.ga K "Single") "set_flag", "set_flag", "Single.set_flag", C8.fnArgs s_Single_set_flag, C8.fnBody s_Single_set_flag, C8.fnScope s_Single_set_flag, [], []⟩
def D_Single_clear_flag : He5.DefA := ⟨fun K => He.ma K (He.ga K "Single") "clear_flag", "clear_flag", "Single.clear_flag", C8.fnArgs s_Single_clear_flag, C8.fnBody s_Single_clear_flag, C8.fnScope s_Single_clear_flag, [], []⟩
def D_Single_tick : He5.DefA := ⟨fun K => He.ma K (He.ga K "Single") "tick", "tick", "Single.tick", C8.fnArgs s_Single_tick, C8.fnBody s_Single_tick, C8.fnScope s_Single_tick, [], []⟩
def D_Single_now : He5.DefA := ⟨prA "Single" "now", "now", "Single.now", C8.fnArgs s_Single_now, C8.fnBody s_Single_now, C8.fnScope s_Single_now, [], []⟩
def D_Single_waiting : He5.DefA := ⟨prA "Single" "waiting", "waiting", "Single.waiting", C8.fnArgs s_Single_waiting, C8.fnBody s_Single_waiting, C8.fnScope s_Single_waiting, [], []⟩
def D_Single_calls : He5.DefA := ⟨prA "Single" "calls", "calls", "Single.calls", C8.fnArgs s_Single_calls, C8.fnBody s_Single_calls, C8.fnScope s_Single_calls, [], []⟩
def D_Single_queue : He5.DefA := ⟨prA "Single" "queue", "queue", "Single.queue", C8.fnArgs s_Single_queue, C8.fnBody s_Single_queue, C8.fnScope s_Single_queue, [], []⟩
def D_Single_flags_up : He5.DefA := ⟨prA "Single" "flags_up", "flags_up", "Single.flags_up", C8.fnArgs s_Single_flags_up, C8.fnBody s_Single_flags_up, C8.fnScope s_Single_flags_up, [], []⟩
def D_Single_bar : He5.DefA := ⟨prA "Single" "bar", "bar", "Single.bar", C8.fnArgs s_Single_bar, C8.fnBody s_Single_bar, C8.fnScope s_Single_bar, [], []⟩
def D_Single_masked : He5.DefA := ⟨prA "Single" "masked", "masked", "Single.masked", C8.fnArgs s_Single_masked, C8.fnBody s_Single_masked, C8.fnScope s_Single_masked, [], []⟩
def D_Single_highs : He5.DefA := ⟨prA "Single" "highs", "highs", "Single.highs", C8.fnArgs s_Single_highs, C8.fnBody s_Single_highs, C8.fnScope s_Single_highs, [], []⟩
def D_Single_spent : He5.DefA := ⟨prA "Single" "spent", "spent", "Single.spent", C8.fnArgs s_Single_spent, C8.fnBody s_Single_spent, C8.fnScope s_Single_spent, [], []⟩
def D_law_taken : He5.DefA := ⟨fun K => He.ga K "_law_taken", "_law_taken", "_law_taken", C8.fnArgs s_law_taken, C8.fnBody s_law_taken, C8.fnScope s_law_taken, [], []⟩
def D_law_alike : He5.DefA := ⟨fun K => He.ga K "_law_alike", "_law_alike", "_law_alike", C8.fnArgs s_law_alike, C8.fnBody s_law_alike, C8.fnScope s_law_alike, [], []⟩
def D_law_mixed : He5.DefA := ⟨fun K => He.ga K "_law_mixed", "_law_mixed", "_law_mixed", C8.fnArgs s_law_mixed, C8.fnBody s_law_mixed, C8.fnScope s_law_mixed, [], []⟩
def D_law_step : He5.DefA := ⟨fun K => He.ga K "_law_step", "_law_step", "_law_step", C8.fnArgs s_law_step, C8.fnBody s_law_step, C8.fnScope s_law_step, [], []⟩
def D_law_setup : He5.DefA := ⟨fun K => He.ga K "_law_setup", "_law_setup", "_law_setup", C8.fnArgs s_law_setup, C8.fnBody s_law_setup, C8.fnScope s_law_setup, [], []⟩
def D_law_new : He5.DefA := ⟨fun K => He.ga K "_law_new", "_law_new", "_law_new", C8.fnArgs s_law_new, C8.fnBody s_law_new, C8.fnScope s_law_new, [], []⟩
def D_law_seen : He5.DefA := ⟨fun K => He.ga K "_law_seen", "_law_seen", "_law_seen", C8.fnArgs s_law_seen, C8.fnBody s_law_seen, C8.fnScope s_law_seen, [], []⟩
def D_law_deed : He5.DefA := ⟨fun K => He.ga K "_law_deed", "_law_deed", "_law_deed", C8.fnArgs s_law_deed, C8.fnBody s_law_deed, C8.fnScope s_law_deed, [], []⟩
def D_law_done : He5.DefA := ⟨fun K => He.ga K "_law_done", "_law_done", "_law_done", C8.fnArgs s_law_done, C8.fnBody s_law_done, C8.fnScope s_law_done, [], []⟩
def D_law : He5.DefA := ⟨fun K => He.ga K "law", "law", "law", C8.fnArgs s_law, C8.fnBody s_law, C8.fnScope s_law, [], []⟩
def fn : List He5.DefA := [D_is_integer, D_check_number, D_is_letters, D_is_name, D_is_line, D_is_work, D_is_step, D_spoilt_named, D_spoilt_line, D_spoilt_work, D_spoilt_handler, D_Setup_init, D_Setup_contains, D_Setup_getitem, D_Setup_eq, D_Setup_sub, D_Setup_lines, D_Setup_works, D_Setup_order, D_check_setup, D_put_changed, D_check_flag, D_Board_init, D_Board_copied_board, D_Board_take_over, D_Board_check_line, D_Board_is_edge, D_Board_ring, D_Board_quiet, D_Board_mask, D_Board_unmask, D_Board_set_flag, D_Board_clear_flag, D_Board_act, D_Board_begin, D_Board_end, D_Board_is_up, D_Board_is_enabled, D_Board_is_high, D_Board_waits, D_Board_waiting_lines, D_Board_ready_lines, D_Board_disabled_lines, D_Board_high_lines, D_Board_raised_flags, D_Board_board_state, D_WorkQueue_init, D_WorkQueue_copy_rows, D_WorkQueue_rows, D_WorkQueue_is_empty, D_WorkQueue_put, D_WorkQueue_spend, D_Processor_init, D_Processor_copied_onto, D_Processor_take, D_Processor_go_on, D_Processor_bar_now, D_Processor_call_rows, D_Processor_work_rows, D_Processor_spent_ticks, D_Processor_processor_state, D_Processor_lets_by, D_Processor_present_step, D_Processor_passes_flag, D_Processor_takes_no_tick, D_Processor_act, D_Processor_go_through, D_Processor_spend, D_Processor_spend_beside_calls, D_Single_init, D_Single_eq, D_Single_told, D_Single_state, D_Single_copied, D_Single_ring, D_Single_quiet, D_Single_mask, D_Single_unmask, D_Single_set_flag, D_Single_clear_flag, D_Single_tick, D_Single_now, D_Single_waiting, D_Single_calls, D_Single_queue, D_Single_flags_up, D_Single_bar, D_Single_masked, D_Single_highs, D_Single_spent, D_law_taken, D_law_alike, D_law_mixed, D_law_step, D_law_setup, D_law_new, D_law_seen, D_law_deed, D_law_done, D_law]
def tsM : List He.Tab := [(fun K => He.ga K "ARGUMENTS", ["run", "ring", "quiet", "mask", "unmask", "set", "clear", "await", "bar", "later"])]
def nm0 : List Str := [("_wall" : Str), ("BellError" : Str), ("InvalidSetup" : Str), ("UnknownLine" : Str), ("NotLevel" : Str), ("InvalidNumber" : Str), ("InvalidFlag" : Str), ("KINDS" : Str), ("MAX_LETTERS" : Str), ("MAX_RANK" : Str), ("MAX_STEPS" : Str), ("MAX_TICKS" : Str), ("ARGUMENTS" : Str), ("is_integer" : Str), ("check_number" : Str), ("is_letters" : Str), ("is_name" : Str), ("is_line" : Str), ("is_work" : Str), ("is_step" : Str), ("spoilt_named" : Str), ("spoilt_line" : Str), ("spoilt_work" : Str), ("spoilt_handler" : Str), ("Setup" : Str), ("check_setup" : Str), ("put_changed" : Str), ("check_flag" : Str), ("Board" : Str), ("WorkQueue" : Str), ("CALLED" : Str), ("SPUN" : Str), ("WORKED" : Str), ("IDLE" : Str), ("Processor" : Str)]
def nm1 : List Str := [("MOST_TICKS" : Str), ("Single" : Str), ("_law_taken" : Str), ("_law_alike" : Str), ("_law_mixed" : Str), ("_law_step" : Str), ("_law_setup" : Str), ("_law_new" : Str), ("_law_seen" : Str), ("_law_deed" : Str), ("_law_done" : Str)]
def nms : List Str := nm0 ++ nm1
abbrev R : PySem.W.OpenRow := PySem.W.OpenLaw.row PySem.Challenge.rw_callbells_k13_copies_and_equality
abbrev hk : PySem.W.Hook := hookM 5 exM fn tsM
def ob (s : PySem.W.SharedT) : AlM := obsMG 5 exM fn tsM (HandSHeadRun.getT s)
theorem ob_eq (s : PySem.W.SharedT) : ob s = hk.obs s.abs := obsMG_eq (HandSHeadRun.getT_eq s)
theorem run_f (w : World) : HandSHeadRun.RunEq R (PySem.W.view R.prog [54]) hk ob 30000 nms (w.withFollow "special-get-raises" false) := by
  intro os
  kernel_rfl
theorem run_t (w : World) : HandSHeadRun.RunEq R (PySem.W.view R.prog [54]) hk ob 30000 nms (w.withFollow "special-get-raises" true) := by
  intro os
  kernel_rfl
theorem run (w : World) : HandSHeadRun.RunEq R (PySem.W.view R.prog [54]) hk ob 30000 nms w :=
  PySem.W.byRow2 "special-get-raises" (P := fun w => HandSHeadRun.RunEq R (PySem.W.view R.prog [54]) hk ob 30000 nms w) run_f run_t w
end Cb

namespace Cb
open PySem PySem.Spec PyProof.Rows L2
section
variable {X : Cx} {k j : Nat} {C : Addr} {sp : Sp}
theorem C_nin (M : C8.Met X.prog X.w X.K X.mg X.base k C "__contains__" sp []) (hr : Room j X.A) (hj : k ≤ j) : OpR X (compareOp .NotIn) (rOwnB C sp C8.E0 not) := by
  obtain ⟨f, fd, ps, ds, hc, hm, F, hb, hv⟩ := M.ex
  cases hv
  exact op_ninOwn F (hr.mono hj) hb (fun _ _ _ _ _ _ _ h => h.elim) hm.at_ hm.fn
theorem C_in (M : C8.Met X.prog X.w X.K X.mg X.base k C "__contains__" sp []) (hr : Room j X.A) (hj : k ≤ j) : OpR X (compareOp .In) (rOwnB C sp C8.E0 id) := by
  obtain ⟨f, fd, ps, ds, hc, hm, F, hb, hv⟩ := M.ex
  cases hv
  exact op_inOwn F (hr.mono hj) hb (fun _ _ _ _ _ _ _ h => h.elim) hm.at_ hm.fn
theorem C_ix {a b : Expr} {ta tb : TE} {pos : Pos} {f0 : Addr} (h0 : Meth X.K C "__getitem__" f0) (h1 : PySem.W.fnIn X.K f0 = true) (M : C8.Met X.prog X.w X.K X.mg X.base k C "__getitem__" sp []) (hr : Room j X.A) (hj : k + 1 ≤ j) (ha : PE X a ta) (hi : PE X b tb)
    (hsl : ∀ o i, subscripted b true o i = runValue (.builtin "lifetime.subscript" ⟨[o, i], []⟩) := by intro _ _; rfl) : PE X (.Subscript a b pos) (tOp (rOwnI C sp C8.E0) ta tb) := by
  obtain ⟨f, fd, ps, ds, hc, hm, F, hb, hv⟩ := M.ex
  cases hv
  have e : f0 = f := by
    have z := h0.at_.symm.trans hm.at_
    injection z with z
    injection z with z
    injection z
  subst e
  exact pe_ixOwn F (hr.mono hj) hb (fun _ _ _ _ _ _ _ h => h.elim) hm.at_ hm.fn h1 ha hi hsl
theorem C_prop {e : Expr} {ta : TE} {f : Str} {p g : Addr} {pos : Pos} (hp : PropOf X.K C f p g) (hc : Cls X.K C) (M : FnP X.prog X.w X.K X.mg X.base k g sp) (hr : Room j X.A) (hj : k + 1 ≤ j) (he : PE X e ta) (hb2 : attributeBase e f X.env (eval e X.env) = eval e X.env := by rfl) : PE X (.Attribute e f pos) (tProp C sp [] C8.E0 ta) := by
  obtain ⟨fd, ps, F, hb⟩ := M.ex
  exact pe_prop he hc hp F (hr.mono hj) hb .nil (fun _ _ _ _ _ _ _ h => h.elim) hb2
end
end Cb

namespace Cb
open PySem PySem.Spec PyProof.Rows L2

def sp_is_integer : Sp := fun vs H Q _ => ∃ i lo hi : Int, vs = [.int i, .int lo, .int hi] ∧ Q (.bl (decide (lo ≤ i) && decide (i ≤ hi))) H
def sp_check_number : Sp := fun vs H Q _ => ∃ i lo hi : Int, vs = [.int i, .int lo, .int hi] ∧ lo ≤ i ∧ i ≤ hi ∧ Q .non H
def sp_check_flag : Sp := fun vs H Q _ => ∃ f : Nat, vs = [.int (f : Nat)] ∧ f ≤ 7 ∧ Q .non H
def sp_is_letters : Sp := fun vs H Q _ => ∃ x : Str, vs = [.str x] ∧ Q (.bl (letters x)) H
def sp_is_name : Sp := fun vs H Q _ => ∃ x : Str, vs = [.str x] ∧ x.length ≤ sizeLine ∧ Q (.bl (decide ((x.length : Int) ≤ 8) && letters x)) H
def sp_Setup_contains (K : PySem.W.Frag) : Sp := fun vs H Q _ => ∃ (su : Addr) (S : SetD) (n : Str), vs = [.ref su, .str n] ∧ SetupAt K H su S ∧ SetOk S ∧ Q (.bl (decide (n ∈ S.ls.map (·.name)))) H
def sp_Setup_getitem (K : PySem.W.Frag) : Sp := fun vs H Q _ => ∃ (su : Addr) (S : SetD) (l : LineD) (K0 : Hp), vs = [.ref su, .str l.name] ∧ SetupAt K K0 su S ∧ Same K0 H ∧ SetOk S ∧ l ∈ S.ls ∧ ∀ v, LineAt K K0 v l → Q v H
def sp_Setup_order (K : PySem.W.Frag) : Sp := fun vs H Q _ => ∃ (su : Addr) (S : SetD) (K0 : Hp), vs = [.ref su] ∧ SetupAt K K0 su S ∧ Same K0 H ∧ ∀ oa, K0 oa = some (.tup (S.order.map V.str)) → Q (.ref oa) H
def sp_Setup_works (K : PySem.W.Frag) : Sp := fun vs H Q _ => ∃ (su : Addr) (S : SetD) (K0 : Hp), vs = [.ref su] ∧ SetupAt K K0 su S ∧ Same K0 H ∧ ∀ wa, WorksAt K K0 wa S.ws → Q (.ref wa) H
/-- put_changed on a dict of flags by names, and on a list of flags -/
def sp_put_changed : Sp := fun vs H Q _ => (∃ (a : Addr) (n : Str) (b : Bool) (o : List Str) (f : Str → Bool), vs = [.ref a, .str n, .bl b] ∧ H a = some (.dK (bd o f)) ∧ n ∈ o ∧ o.length ≤ 12 ∧ Q (.bl (!decide (V.bl (f n) = V.bl b))) (upd H a (.dK (bd o (fset f n b)))))

section
variable {P : Program} {w : World} {K : PySem.W.Frag} {mg : Str → Option Value} {base : Heap}

abbrev N_is_integer : List Str := ["value", "low", "high"]
theorem sc_is_integer : FnScope N_is_integer ["value", "low", "high"] (C8.fnScope s_is_integer) := C8.fnScope_by (by decide +kernel)
theorem ok_is_integer {fd : FuncData} (T : Txt K mg) (F : FunD K "is_integer" "is_integer" (C8.fnArgs s_is_integer) (C8.fnBody s_is_integer) (C8.fnScope s_is_integer) [] [] (He.ga K "is_integer") fd) :
    C8.Cal P w K mg base 1 "is_integer" sp_is_integer [] := by
  refine C8.cal0 (ds := []) ⟨fun_c8 F, T.f_is_integer, F.kp⟩ (F.bindsN fun _ _ _ _ _ _ us hl => match us, hl with | [_, _, _], _ => rfl) .nil sc_is_integer (fun vs H Q E h => ?_) (fun cdv A outer s H vs Q E hr h => ?_)
  · obtain ⟨_, _, _, rfl, _⟩ := h
    rfl
  · have nd := sc_is_integer.nd
    have hu := hu_of hr
    obtain ⟨i, lo, hi, rfl, q⟩ := h
    refine ⟨_, (pss_one (ps_ret (pe_and (pe_callB call_is (by rfl) T.n_isinstance (by decide +kernel) (pa_cons (pv 0) (pa_cons (pe_bltn (v := .ty "int") rfl T.n_int (by decide +kernel) rfl) pa_nil))) (pe_and (pe_not (pe_callB call_is (by rfl) T.n_isinstance (by decide +kernel) (pa_cons (pv 0) (pa_cons (pe_bltn (v := .ty "bool") rfl T.n_bool (by decide +kernel) rfl) pa_nil)))) (pe_one (pe_chain op_le op_le (pv 1) (pv 0) (pv 2))))))), ?_⟩
    refine ⟨_, rfl, _, _, _, _, rfl, ty_int, kb1, true, rfl, iteT ?_⟩
    refine ⟨_, rfl, _, _, _, _, rfl, ty_int, kb2, false, rfl, true, rfl, iteT ?_⟩
    refine ⟨_, rfl, _, rfl, _, _, rfl, rfl, _, rfl, ?_⟩
    cases e1 : decide (lo ≤ i) with
    | true =>
      rw [e1] at q
      refine iteT ⟨_, rfl, _, _, rfl, rfl, ?_⟩
      rw [Bool.true_and] at q
      exact q
    | false =>
      rw [e1, Bool.false_and] at q
      exact iteF q
abbrev N_check_number : List Str := ["value", "low", "high"]
theorem sc_check_number : FnScope N_check_number ["value", "low", "high"] (C8.fnScope s_check_number) := C8.fnScope_by (by decide +kernel)
theorem ok_check_number {fd : FuncData} (T : Txt K mg) (F : FunD K "check_number" "check_number" (C8.fnArgs s_check_number) (C8.fnBody s_check_number) (C8.fnScope s_check_number) [] [] (He.ga K "check_number") fd) (c_is_integer : C8.Cal P w K mg base 1 "is_integer" sp_is_integer []) :
    C8.Cal P w K mg base 2 "check_number" sp_check_number [] := by
  refine C8.cal0 (ds := []) ⟨fun_c8 F, T.f_check_number, F.kp⟩ (F.bindsN fun _ _ _ _ _ _ us hl => match us, hl with | [_, _, _], _ => rfl) .nil sc_check_number (fun vs H Q E h => ?_) (fun cdv A outer s H vs Q E hr h => ?_)
  · obtain ⟨_, _, _, rfl, _⟩ := h
    rfl
  · have nd := sc_check_number.nd
    have hu := hu_of hr
    obtain ⟨i, lo, hi, rfl, h1, h2, q⟩ := h
    refine ⟨_, (pss_one (ps_if (pt_not (pt_val (C8.pe_c c_is_integer hr (by decide) rfl (pa_cons (pv 0) (pa_cons (pv 1) (pa_cons (pv 2) pa_nil)))))) (pss_one ps_never) pss_nil)), ?_⟩
    refine ⟨_, rfl, _, rfl, _, rfl, _, _, _, rfl, true, by simp [h1, h2], iteF q⟩
abbrev N_check_flag : List Str := ["flag"]
theorem sc_check_flag : FnScope N_check_flag ["flag"] (C8.fnScope s_check_flag) := C8.fnScope_by (by decide +kernel)
theorem ok_check_flag {fd : FuncData} (T : Txt K mg) (F : FunD K "check_flag" "check_flag" (C8.fnArgs s_check_flag) (C8.fnBody s_check_flag) (C8.fnScope s_check_flag) [] [] (He.ga K "check_flag") fd) (c_is_integer : C8.Cal P w K mg base 1 "is_integer" sp_is_integer []) :
    C8.Cal P w K mg base 2 "check_flag" sp_check_flag [] := by
  refine C8.cal0 (ds := []) ⟨fun_c8 F, T.f_check_flag, F.kp⟩ (F.bindsN fun _ _ _ _ _ _ us hl => match us, hl with | [_], _ => rfl) .nil sc_check_flag (fun vs H Q E h => ?_) (fun cdv A outer s H vs Q E hr h => ?_)
  · obtain ⟨_, rfl, _⟩ := h
    rfl
  · have nd := sc_check_flag.nd
    have hu := hu_of hr
    obtain ⟨f, rfl, h7, q⟩ := h
    refine ⟨_, (pss_one (ps_if (pt_not (pt_val (C8.pe_c c_is_integer hr (by decide) rfl (pa_cons (pv 0) (pa_cons pe_int (pa_cons (ClX.pe_cval (pe_glob (v := .ref (aC "Setup" K)) rfl T.g_Setup rfl)) pa_nil)))))) (pss_one ps_never) pss_nil)), ?_⟩
    obtain ⟨u3, c3⟩ := T.c_Setup_MAX_FLAG
    refine ⟨_, rfl, _, _, _, _, rfl, T.r_Setup, c3, _, _, _, rfl, true, congrArg V.bl (by simp; omega), iteF q⟩
abbrev N_put_changed : List Str := ["table", "at", "value", "was"]
theorem sc_put_changed : FnScope N_put_changed ["table", "at", "value"] (C8.fnScope s_put_changed) := C8.fnScope_by (by decide +kernel)
theorem ok_put_changed {fd : FuncData} (T : Txt K mg) (F : FunD K "put_changed" "put_changed" (C8.fnArgs s_put_changed) (C8.fnBody s_put_changed) (C8.fnScope s_put_changed) [] [] (He.ga K "put_changed") fd) :
    C8.Cal P w K mg base 1 "put_changed" sp_put_changed [] := by
  refine C8.cal0 (ds := []) ⟨fun_c8 F, T.f_put_changed, F.kp⟩ (F.bindsN fun _ _ _ _ _ _ us hl => match us, hl with | [_, _, _], _ => rfl) .nil sc_put_changed (fun vs H Q E h => ?_) (fun cdv A outer s H vs Q E hr h => ?_)
  · obtain ⟨_, _, _, _, _, rfl, _⟩ := h
    rfl
  · have nd := sc_put_changed.nd
    have hu := hu_of hr
    obtain ⟨a, n, b, o, f, rfl, ha, hn, hl, q⟩ := h
    refine ⟨_, (pss_cons (ps_set (i := 3) nd rfl (Or.inl rfl) (pe_dget hu (pv 0) (pv 1) (fun _ _ => rfl)))
      (pss_cons (ps_dput hu (pv 0) (pv 1) (pv 2) rfl)
      (pss_one (ps_ret (pe_cmpR op_ne (pv 3) (pv 2) (nomark _)))))), ?_⟩
    refine ⟨_, rfl, _, rfl, a, _, rfl, bd_at hn ▸ DGet.k (k := .inr n) ha, ?_⟩
    have dp := DPut.k (k := .inr n) (v := .bl b) ha (sml (m := 12) (by simpa [bd] using hl) (by decide))
    rw [putK_bd hn] at dp
    exact ⟨_, rfl, _, rfl, _, rfl, a, _, rfl, dp, _, rfl, _, rfl, rfl, q⟩
abbrev N_Setup_contains : List Str := ["self", "x"]
theorem sc_Setup_contains : FnScope N_Setup_contains ["self", "x"] (C8.fnScope s_Setup_contains) := C8.fnScope_by (by decide +kernel)
theorem ok_Setup_contains {fd : FuncData} (T : Txt K mg) (F : FunD K "__contains__" "Setup.__contains__" (C8.fnArgs s_Setup_contains) (C8.fnBody s_Setup_contains) (C8.fnScope s_Setup_contains) [] [] (He.ma K (aC "Setup" K) "__contains__") fd) :
    C8.Met P w K mg base 1 (aC "Setup" K) "__contains__" (sp_Setup_contains K) [] := by
  refine C8.met0 T.cl_Setup T.m_Setup_contains (fun_c8 F) (F.bindsN fun _ _ _ _ _ _ us hl => match us, hl with | [_, _], _ => rfl) sc_Setup_contains (fun vs H Q E h => ?_) (fun cdv A outer s H vs Q E hr h => ?_)
  · obtain ⟨_, _, _, rfl, _⟩ := h
    rfl
  · have nd := sc_Setup_contains.nd
    have hu := hu_of hr
    obtain ⟨su, S, n, rfl, ⟨dx, la, wa, bn, oa, xs, h1, h2, h3, h4, h5, h6⟩, ok, q⟩ := h
    refine ⟨_, (pss_one (ps_ret (pe_and (pe_callB call_is (by rfl) T.n_isinstance (by decide +kernel) (pa_cons (pv 1) (pa_cons (pe_bltn (v := .ty "str") rfl T.n_str (by decide +kernel) rfl) pa_nil))) (pe_one (pe_cmp (pc_din hu (pv 1) (pe_fld (pv 0) rfl)) rfl))))), ?_⟩
    refine ⟨_, rfl, _, _, _, _, rfl, ty_str, kb3, true, rfl, iteT ?_⟩
    refine ⟨_, rfl, _, rfl, _, _, _, _, _, rfl, h1, T.cl_Setup, T.t_Setup_by_name, rfl, _, valV (byN S.ls xs) (.inr n), rfl, DGet.k (k := .inr n) h4, ?_⟩
    by_cases hm : n ∈ S.ls.map (·.name)
    · rw [decide_eq_true hm] at q
      obtain ⟨l, hl, rfl⟩ := List.mem_map.mp hm
      obtain ⟨i, hi⟩ := List.mem_iff_getElem?.mp hl
      obtain ⟨v, hv, _⟩ := pgetr h5 hi
      rw [byN_at ok.ok.nd hi hv]
      exact q
    · rw [decide_eq_false hm] at q
      rw [byN_no hm]
      exact q
abbrev N_Setup_getitem : List Str := ["self", "at"]
theorem sc_Setup_getitem : FnScope N_Setup_getitem ["self", "at"] (C8.fnScope s_Setup_getitem) := C8.fnScope_by (by decide +kernel)
theorem ok_Setup_getitem {fd : FuncData} (T : Txt K mg) (F : FunD K "__getitem__" "Setup.__getitem__" (C8.fnArgs s_Setup_getitem) (C8.fnBody s_Setup_getitem) (C8.fnScope s_Setup_getitem) [] [] (He.ma K (aC "Setup" K) "__getitem__") fd) (c_contains : C8.Met P w K mg base 1 (aC "Setup" K) "__contains__" (sp_Setup_contains K) []) :
    C8.Met P w K mg base 2 (aC "Setup" K) "__getitem__" (sp_Setup_getitem K) [] := by
  refine C8.met0 T.cl_Setup T.m_Setup_getitem (fun_c8 F) (F.bindsN fun _ _ _ _ _ _ us hl => match us, hl with | [_, _], _ => rfl) sc_Setup_getitem (fun vs H Q E h => ?_) (fun cdv A outer s H vs Q E hr h => ?_)
  · obtain ⟨_, _, _, _, rfl, _⟩ := h
    rfl
  · have nd := sc_Setup_getitem.nd
    have hu := hu_of hr
    obtain ⟨su, S, l, K0, rfl, hS0, e0, ok, hl, q⟩ := h
    refine ⟨_, (pss_cons (ps_if (pt_cmpR (C_nin c_contains hr (by decide)) (pv 1) (pv 0) (by rfl)) (pss_one ps_never) pss_nil)
      (pss_one (ps_ret (pe_dget hu (pe_fld (pv 0) rfl) (pv 1) (fun _ _ => rfl))))), ?_⟩
    have hS := SetupAt.up e0 hS0
    obtain ⟨dx, la, wa, bn, oa, xs, h1', h2, h3, h4', h5, h6⟩ := hS0
    have h1 := e0 _ _ h1'
    have h4 := e0 _ _ h4'
    refine ⟨_, rfl, _, rfl, su, dx, _, rfl, h1, ⟨su, S, _, rfl, hS, ok, _, rfl, false, by rw [decide_eq_true (List.mem_map_of_mem hl)]; rfl, iteF ?_⟩⟩
    obtain ⟨i, hi⟩ := List.mem_iff_getElem?.mp hl
    obtain ⟨v, hv, hL⟩ := pgetr h5 hi
    exact ⟨_, rfl, _, _, _, _, _, rfl, h1, T.cl_Setup, T.t_Setup_by_name, rfl, _, rfl, _, v, rfl, byN_at ok.ok.nd hi hv ▸ DGet.k (k := .inr l.name) h4, q v hL⟩
abbrev N_Setup_order : List Str := ["self"]
theorem sc_Setup_order : FnScope N_Setup_order ["self"] (C8.fnScope s_Setup_order) := C8.fnScope_by (by decide +kernel)
theorem ok_Setup_order {fd : FuncData} (T : Txt K mg) (F : FunD K "order" "Setup.order" (C8.fnArgs s_Setup_order) (C8.fnBody s_Setup_order) (C8.fnScope s_Setup_order) [] [] (prA "Setup" "order" K) fd) :
    FnP P w K mg base 1 (prA "Setup" "order" K) (sp_Setup_order K) := by
  refine fnP_mk (fun_c8 F) (F.bindsN fun _ _ _ _ _ _ us hl => match us, hl with | [_], _ => rfl) sc_Setup_order (fun vs H Q E h => ?_) (fun cdv A outer s H vs Q E hr h => ?_)
  · obtain ⟨_, _, _, rfl, _⟩ := h
    rfl
  · have nd := sc_Setup_order.nd
    have hu := hu_of hr
    obtain ⟨su, S, K0, rfl, ⟨dx, la, wa, bn, oa, xs, h1, h2, h3, h4, h5, h6⟩, sm, q⟩ := h
    refine ⟨_, (pss_one (ps_ret (pe_fld (pv 0) rfl))), ?_⟩
    exact ⟨_, rfl, _, _, _, _, _, rfl, sm _ _ h1, T.cl_Setup, T.t_Setup_order, rfl, q oa h6⟩
abbrev N_Setup_works : List Str := ["self"]
theorem sc_Setup_works : FnScope N_Setup_works ["self"] (C8.fnScope s_Setup_works) := C8.fnScope_by (by decide +kernel)
theorem ok_Setup_works {fd : FuncData} (T : Txt K mg) (F : FunD K "works" "Setup.works" (C8.fnArgs s_Setup_works) (C8.fnBody s_Setup_works) (C8.fnScope s_Setup_works) [] [] (prA "Setup" "works" K) fd) :
    FnP P w K mg base 1 (prA "Setup" "works" K) (sp_Setup_works K) := by
  refine fnP_mk (fun_c8 F) (F.bindsN fun _ _ _ _ _ _ us hl => match us, hl with | [_], _ => rfl) sc_Setup_works (fun vs H Q E h => ?_) (fun cdv A outer s H vs Q E hr h => ?_)
  · obtain ⟨_, _, _, rfl, _⟩ := h
    rfl
  · have nd := sc_Setup_works.nd
    have hu := hu_of hr
    obtain ⟨su, S, K0, rfl, ⟨dx, la, wa, bn, oa, xs, h1, h2, h3, h4, h5, h6⟩, sm, q⟩ := h
    refine ⟨_, (pss_one (ps_ret (pe_fld (pv 0) rfl))), ?_⟩
    exact ⟨_, rfl, _, _, _, _, _, rfl, sm _ _ h1, T.cl_Setup, T.t_Setup_works, rfl, q wa h3⟩
end
end Cb

namespace Cb
open PySem PySem.Spec PyProof.Rows L2

structure AdB where
  su : Addr
  bo : Addr
  db : Addr
  r : Addr
  d : Addr
  u : Addr
  fl : Addr
  mg : Addr
structure BoardAt (K : PySem.W.Frag) (H : Hp) (A : AdB) (S : SetD) : Prop where
  at_ : H A.bo = some (.ins (aC "Board" K) A.db [("_setup", .ref A.su), ("_rung", .ref A.r), ("_disabled", .ref A.d), ("_under_way", .ref A.u), ("_flags", .ref A.fl), ("_merges", .ref A.mg)])
  su : SetupAt K H A.su S
  ok : SetOk S
theorem BoardAt.up {K : PySem.W.Frag} {H H' : Hp} {A : AdB} {S : SetD} (e : Same H H') (h : BoardAt K H A S) : BoardAt K H' A S := ⟨e _ _ h.at_, SetupAt.up e h.su, h.ok⟩
def layB (A : AdB) (S : SetD) (b : BdD) (M : List (Addr × HO)) : List (Addr × HO) :=
  (A.r, .dK (bd S.order b.rung)) :: (A.d, .dK (bd S.order b.dis)) :: (A.u, .dK (bd S.order b.und)) :: (A.fl, .lst (b.fl.map V.bl)) :: (A.mg, .dK (md S.order b.mg)) :: M
structure OwnB (K : PySem.W.Frag) (A : AdB) (S : SetD) (K0 H : Hp) (b : BdD) (M : List (Addr × HO)) : Prop where
  fb : BoardAt K K0 A S
  fl : b.fl.length = 8
  sp : Sep K0 H (layB A S b M)
theorem OwnB.grow {K : PySem.W.Frag} {A : AdB} {S : SetD} {K0 H H' : Hp} {b : BdD} {M : List (Addr × HO)} (h : OwnB K A S K0 H b M) (g : Same H H') : OwnB K A S K0 H' b M := ⟨h.fb, h.fl, h.sp.grow g⟩
theorem OwnB.at_ {K : PySem.W.Frag} {A : AdB} {S : SetD} {K0 H : Hp} {b : BdD} {M : List (Addr × HO)} (h : OwnB K A S K0 H b M) : BoardAt K H A S := BoardAt.up h.sp.ext h.fb
theorem bd_len {S : SetD} (ok : SetOk S) (f : Str → Bool) : (bd S.order f).length < sizeLine := sml (m := 12) (by simpa [bd] using ok.len) (by decide)
theorem md_len {S : SetD} (ok : SetOk S) (f : Str → Int) : (md S.order f).length < sizeLine := sml (m := 12) (by simpa [md] using ok.len) (by decide)
def ringR (b : Bool) : Str := if b = true then "merged" else "waits"
def sp_put_changedL : Sp := fun vs H Q _ => ∃ (a : Addr) (i : Nat) (b : Bool) (l : List Bool), vs = [.ref a, .int (i : Nat), .bl b] ∧ H a = some (.lst (l.map V.bl)) ∧ i < l.length ∧ Q (.bl (!decide (V.bl (l.getD i false) = V.bl b))) (upd H a (.lst ((l.set i b).map V.bl)))
def sp_Board_check_line (K : PySem.W.Frag) : Sp := fun vs H Q _ => ∃ (A : AdB) (S : SetD) (l : LineD), vs = [.ref A.bo, .str l.name] ∧ BoardAt K H A S ∧ l ∈ S.ls ∧ Q .non H
def sp_Board_is_edge (K : PySem.W.Frag) : Sp := fun vs H Q _ => ∃ (A : AdB) (S : SetD) (l : LineD), vs = [.ref A.bo, .str l.name] ∧ BoardAt K H A S ∧ l ∈ S.ls ∧ Q (.bl (!l.lvl)) H
def sp_Board_ring (K : PySem.W.Frag) : Sp := fun vs H Q _ => ∃ (A : AdB) (S : SetD) (l : LineD) (K0 : Hp) (b : BdD) (M : List (Addr × HO)), vs = [.ref A.bo, .str l.name] ∧ OwnB K A S K0 H b M ∧ l ∈ S.ls ∧
  ∀ H', OwnB K A S K0 H' (ringB b l.name) M → Q (.str (ringR (b.rung l.name))) H'
def sp_Board_quiet (K : PySem.W.Frag) : Sp := fun vs H Q _ => ∃ (A : AdB) (S : SetD) (l : LineD) (K0 : Hp) (b : BdD) (M : List (Addr × HO)), vs = [.ref A.bo, .str l.name] ∧ OwnB K A S K0 H b M ∧ l ∈ S.ls ∧ l.lvl = true ∧
  ∀ H', OwnB K A S K0 H' (quietB b l.name) M → Q (.bl (b.rung l.name)) H'
def sp_Board_mask (K : PySem.W.Frag) : Sp := fun vs H Q _ => ∃ (A : AdB) (S : SetD) (l : LineD) (K0 : Hp) (b : BdD) (M : List (Addr × HO)), vs = [.ref A.bo, .str l.name] ∧ OwnB K A S K0 H b M ∧ l ∈ S.ls ∧
  ∀ H', OwnB K A S K0 H' (maskB b l.name true) M → Q (.bl (!b.dis l.name)) H'
def sp_Board_unmask (K : PySem.W.Frag) : Sp := fun vs H Q _ => ∃ (A : AdB) (S : SetD) (l : LineD) (K0 : Hp) (b : BdD) (M : List (Addr × HO)), vs = [.ref A.bo, .str l.name] ∧ OwnB K A S K0 H b M ∧ l ∈ S.ls ∧
  ∀ H', OwnB K A S K0 H' (maskB b l.name false) M → Q (.bl (b.dis l.name)) H'
def sp_Board_set_flag (K : PySem.W.Frag) : Sp := fun vs H Q _ => ∃ (A : AdB) (S : SetD) (f : Nat) (K0 : Hp) (b : BdD) (M : List (Addr × HO)), vs = [.ref A.bo, .int (f : Nat)] ∧ OwnB K A S K0 H b M ∧ f ≤ 7 ∧
  ∀ H', OwnB K A S K0 H' (flagB b f true) M → Q (.bl (!b.fl.getD f false)) H'
def sp_Board_clear_flag (K : PySem.W.Frag) : Sp := fun vs H Q _ => ∃ (A : AdB) (S : SetD) (f : Nat) (K0 : Hp) (b : BdD) (M : List (Addr × HO)), vs = [.ref A.bo, .int (f : Nat)] ∧ OwnB K A S K0 H b M ∧ f ≤ 7 ∧
  ∀ H', OwnB K A S K0 H' (flagB b f false) M → Q (.bl (b.fl.getD f false)) H'
def SD.onB : SD → Bool
  | .ring _ | .quiet _ | .mask _ | .unmask _ | .setf _ | .clearf _ | .await _ => true
  | _ => false
def sp_Board_act (K : PySem.W.Frag) : Sp := fun vs H Q _ => ∃ (A : AdB) (S : SetD) (st : SD) (K0 : Hp) (b : BdD) (M : List (Addr × HO)), vs = [.ref A.bo, .str st.word, st.arg] ∧ OwnB K A S K0 H b M ∧ StepOk S.ls S.ws st ∧ st.onB = true ∧
  ∀ H', OwnB K A S K0 H' (actB b st) M → Q .non H'
def sp_Board_begin (K : PySem.W.Frag) : Sp := fun vs H Q _ => ∃ (A : AdB) (S : SetD) (l : LineD) (K0 : Hp) (b : BdD) (M : List (Addr × HO)), vs = [.ref A.bo, .str l.name] ∧ OwnB K A S K0 H b M ∧ l ∈ S.ls ∧
  ∀ H', OwnB K A S K0 H' (beginB b l) M → Q .non H'
def sp_Board_end (K : PySem.W.Frag) : Sp := fun vs H Q _ => ∃ (A : AdB) (S : SetD) (l : LineD) (K0 : Hp) (b : BdD) (M : List (Addr × HO)), vs = [.ref A.bo, .str l.name] ∧ OwnB K A S K0 H b M ∧ l ∈ S.ls ∧
  ∀ H', OwnB K A S K0 H' (endB b l) M → Q .non H'
def sp_Board_is_up (K : PySem.W.Frag) : Sp := fun vs H Q _ => ∃ (A : AdB) (S : SetD) (f : Nat) (K0 : Hp) (b : BdD) (M : List (Addr × HO)), vs = [.ref A.bo, .int (f : Nat)] ∧ OwnB K A S K0 H b M ∧ f ≤ 7 ∧ Q (.bl (b.fl.getD f false)) H
def sp_Board_is_enabled (K : PySem.W.Frag) : Sp := fun vs H Q _ => ∃ (A : AdB) (S : SetD) (l : LineD) (K0 : Hp) (b : BdD) (M : List (Addr × HO)), vs = [.ref A.bo, .str l.name] ∧ OwnB K A S K0 H b M ∧ l ∈ S.ls ∧ Q (.bl (!b.dis l.name)) H
def sp_Board_is_high (K : PySem.W.Frag) : Sp := fun vs H Q _ => ∃ (A : AdB) (S : SetD) (l : LineD) (K0 : Hp) (b : BdD) (M : List (Addr × HO)), vs = [.ref A.bo, .str l.name] ∧ OwnB K A S K0 H b M ∧ l ∈ S.ls ∧ Q (.bl (b.rung l.name && l.lvl)) H
def sp_Board_waits (K : PySem.W.Frag) : Sp := fun vs H Q _ => ∃ (A : AdB) (S : SetD) (l : LineD) (K0 : Hp) (b : BdD) (M : List (Addr × HO)), vs = [.ref A.bo, .str l.name] ∧ OwnB K A S K0 H b M ∧ l ∈ S.ls ∧ Q (.bl (waitsB b l)) H
theorem nb (b : Bool) : (!decide (V.bl b = V.bl true)) = !b := by cases b <;> rfl
theorem nb' (b : Bool) : (!decide (V.bl b = V.bl false)) = b := by cases b <;> rfl
theorem atF {l : List Bool} {i : Nat} (h : i < l.length) : atI (l.map V.bl) (i : Nat) = some (.bl (l.getD i false)) := by
  refine atIn ?_
  rw [List.getElem?_map, List.getElem?_eq_getElem h]
  simp [List.getD_eq_getElem?_getD, List.getElem?_eq_getElem h]
theorem ixNn {n k : Nat} (h : k < n) : ixN n (k : Nat) = some k := by
  unfold ixN
  rw [if_pos (by omega), if_pos (by omega), Int.toNat_natCast]

section
variable {P : Program} {w : World} {K : PySem.W.Frag} {mg : Str → Option Value} {base : Heap}

theorem okP_put_changed {fd : FuncData} (T : Txt K mg) (F : FunD K "put_changed" "put_changed" (C8.fnArgs s_put_changed) (C8.fnBody s_put_changed) (C8.fnScope s_put_changed) [] [] (He.ga K "put_changed") fd) :
    C8.Cal P w K mg base 1 "put_changed" sp_put_changedL [] := by
  refine C8.cal0 (ds := []) ⟨fun_c8 F, T.f_put_changed, F.kp⟩ (F.bindsN fun _ _ _ _ _ _ us hl => match us, hl with | [_, _, _], _ => rfl) .nil sc_put_changed (fun vs H Q E h => ?_) (fun cdv A outer s H vs Q E hr h => ?_)
  · obtain ⟨_, _, _, _, rfl, _⟩ := h
    rfl
  · have nd := sc_put_changed.nd
    have hu := hu_of hr
    obtain ⟨a, i, b, l, rfl, ha, hi, q⟩ := h
    refine ⟨_, (pss_cons (ps_set (i := 3) nd rfl (Or.inl rfl) (pe_ix ix_list (pv 0) (pv 1) (fun _ _ => rfl)))
      (pss_cons (ps_asg (pv 2) (pg_sub (pv 0) (pv 1) set_list))
      (pss_one (ps_ret (pe_cmpR op_ne (pv 3) (pv 2) (nomark _)))))), ?_⟩
    refine ⟨_, rfl, _, rfl, _, _, _, _, rfl, rfl, l_of ha, atF hi, ?_⟩
    refine ⟨_, rfl, _, rfl, _, rfl, _, _, _, i, rfl, rfl, ha, ixNn (by simpa using hi), ?_⟩
    rw [← List.map_set]
    exact ⟨_, rfl, _, rfl, rfl, q⟩
abbrev N_Board_check_line : List Str := ["self", "line"]
theorem sc_Board_check_line : FnScope N_Board_check_line ["self", "line"] (C8.fnScope s_Board_check_line) := C8.fnScope_by (by decide +kernel)
theorem ok_Board_check_line {fd : FuncData} (T : Txt K mg) (F : FunD K "_check_line" "Board._check_line" (C8.fnArgs s_Board_check_line) (C8.fnBody s_Board_check_line) (C8.fnScope s_Board_check_line) [] [] (He.ma K (aC "Board" K) "_check_line") fd) (c_contains : C8.Met P w K mg base 1 (aC "Setup" K) "__contains__" (sp_Setup_contains K) []) :
    C8.Met P w K mg base 2 (aC "Board" K) "_check_line" (sp_Board_check_line K) [] := by
  refine C8.met0 T.cl_Board T.m_Board_check_line (fun_c8 F) (F.bindsN fun _ _ _ _ _ _ us hl => match us, hl with | [_, _], _ => rfl) sc_Board_check_line (fun vs H Q E h => ?_) (fun cdv A outer s H vs Q E hr h => ?_)
  · obtain ⟨_, _, _, rfl, _⟩ := h
    rfl
  · have nd := sc_Board_check_line.nd
    have hu := hu_of hr
    obtain ⟨A, S, l, rfl, B, hl, q⟩ := h
    refine ⟨_, (pss_one (ps_if (pt_cmpR (C_nin c_contains hr (by decide)) (pv 1) (pe_fld (pv 0) rfl) (by rfl)) (pss_one ps_never) pss_nil)), ?_⟩
    have h1 := B.at_
    obtain ⟨dx2, _, _, _, _, _, h3, _⟩ := B.su.ex
    refine ⟨_, rfl, _, rfl, _, _, _, _, _, rfl, h1, T.cl_Board, T.t_Board_setup, rfl, A.su, dx2, _, rfl, h3, A.su, S, _, rfl, B.su, B.ok, _, rfl, false, by rw [decide_eq_true (List.mem_map_of_mem hl)]; rfl, iteF q⟩
abbrev N_Board_is_edge : List Str := ["self", "line"]
theorem sc_Board_is_edge : FnScope N_Board_is_edge ["self", "line"] (C8.fnScope s_Board_is_edge) := C8.fnScope_by (by decide +kernel)
theorem ok_Board_is_edge {fd : FuncData} (T : Txt K mg) (F : FunD K "_is_edge" "Board._is_edge" (C8.fnArgs s_Board_is_edge) (C8.fnBody s_Board_is_edge) (C8.fnScope s_Board_is_edge) [] [] (He.ma K (aC "Board" K) "_is_edge") fd) (c_getitem : C8.Met P w K mg base 2 (aC "Setup" K) "__getitem__" (sp_Setup_getitem K) []) :
    C8.Met P w K mg base 4 (aC "Board" K) "_is_edge" (sp_Board_is_edge K) [] := by
  refine C8.met0 T.cl_Board T.m_Board_is_edge (fun_c8 F) (F.bindsN fun _ _ _ _ _ _ us hl => match us, hl with | [_, _], _ => rfl) sc_Board_is_edge (fun vs H Q E h => ?_) (fun cdv A outer s H vs Q E hr h => ?_)
  · obtain ⟨_, _, _, rfl, _⟩ := h
    rfl
  · have nd := sc_Board_is_edge.nd
    have hu := hu_of hr
    obtain ⟨A, S, l, rfl, B, hl, q⟩ := h
    refine ⟨_, (pss_one (ps_ret (pe_cmpR op_eq (pe_ix ix_tup (C_ix T.m_Setup_getitem T.i_getitem c_getitem hr (by decide) (pe_fld (pv 0) rfl) (pv 1)) pe_int (fun _ _ => rfl)) pe_str (nomark _)))), ?_⟩
    have h1 := B.at_
    obtain ⟨dx2, _, _, _, _, _, h3, _⟩ := B.su.ex
    refine ⟨_, rfl, _, _, _, _, _, rfl, h1, T.cl_Board, T.t_Board_setup, rfl, _, rfl, A.su, dx2, _, rfl, h3, A.su, S, l, H, rfl, B.su, Same.refl H, B.ok, hl, fun v hv => ?_⟩
    obtain ⟨a, g, gs, rfl, ha, _⟩ := hv
    exact ⟨_, _, _, _, rfl, rfl, ha, rfl, rfl, (congrArg (fun b => Q (.bl b) H) (by cases l.lvl <;> rfl)).mp q⟩
abbrev N_Board_ring : List Str := ["self", "line"]
theorem sc_Board_ring : FnScope N_Board_ring ["self", "line"] (C8.fnScope s_Board_ring) := C8.fnScope_by (by decide +kernel)
theorem ok_Board_ring {fd : FuncData} (T : Txt K mg) (F : FunD K "ring" "Board.ring" (C8.fnArgs s_Board_ring) (C8.fnBody s_Board_ring) (C8.fnScope s_Board_ring) [] [] (He.ma K (aC "Board" K) "ring") fd) (c_check_line : C8.Met P w K mg base 2 (aC "Board" K) "_check_line" (sp_Board_check_line K) []) (c_put_changed : C8.Cal P w K mg base 1 "put_changed" sp_put_changed []) :
    C8.Met P w K mg base 3 (aC "Board" K) "ring" (sp_Board_ring K) [] := by
  refine C8.met0 T.cl_Board T.m_Board_ring (fun_c8 F) (F.bindsN fun _ _ _ _ _ _ us hl => match us, hl with | [_, _], _ => rfl) sc_Board_ring (fun vs H Q E h => ?_) (fun cdv A outer s H vs Q E hr h => ?_)
  · obtain ⟨_, _, _, _, _, _, rfl, _⟩ := h
    rfl
  · have nd := sc_Board_ring.nd
    have hu := hu_of hr
    obtain ⟨A, S, l, K0, b, M, rfl, ow, hl, q⟩ := h
    refine ⟨_, (pss_cons (ps_expr (C8.pe_mt c_check_line hr (by decide) (pv 0) (pa_cons (pv 1) pa_nil)))
      (pss_cons (ps_if (pt_val (C8.pe_c c_put_changed hr (by decide) rfl (pa_cons (pe_fld (pv 0) rfl) (pa_cons (pv 1) (pa_cons pe_bl pa_nil))))) (pss_one (ps_ret pe_str)) pss_nil)
      (pss_cons (ps_daug hu (pe_fld (pv 0) rfl) (pv 1) pe_int in_add (fun _ _ _ => rfl))
      (pss_one (ps_ret pe_str))))), ?_⟩
    have B := ow.at_
    have h1 := B.at_
    have sp := ow.sp
    have hm := B.ok.mem hl
    refine ⟨_, rfl, A.bo, A.db, _, rfl, h1, rfl, _, rfl, A, S, l, rfl, B, hl, ?_⟩
    refine ⟨_, rfl, _, _, _, _, _, rfl, h1, T.cl_Board, T.t_Board_rung, rfl, _, rfl, A.r, l.name, true, S.order, b.rung, rfl, sp.c0, hm, B.ok.len, ?_⟩
    have sp1 := sp.put0 (o' := .dK (bd S.order (fset b.rung l.name true)))
    have h9 := sp1.ext _ _ ow.fb.at_
    cases e : b.rung l.name with
    | true =>
      refine ⟨_, rfl, iteF ?_⟩
      have dp := DPut.k (k := .inr l.name) (v := .int (b.mg l.name + 1)) sp1.c4 (md_len B.ok _)
      rw [putK_md hm] at dp
      refine ⟨_, rfl, _, _, _, _, _, rfl, h9, T.cl_Board, T.t_Board_merges, rfl, _, rfl, _, .int (b.mg l.name), rfl, md_at hm ▸ DGet.k (k := .inr l.name) sp1.c4, ?_⟩
      refine ⟨_, _, rfl, rfl, _, dp, ?_⟩
      have z := q _ ⟨ow.fb, ow.fl, by unfold ringB; rw [e, if_pos rfl]; exact sp1.put4⟩
      rw [e] at z
      exact z
    | false =>
      have z := q _ ⟨ow.fb, ow.fl, by unfold ringB; rw [e, if_neg (by simp)]; exact sp1⟩
      rw [e] at z
      exact ⟨_, rfl, iteT z⟩
abbrev N_Board_quiet : List Str := ["self", "line"]
theorem sc_Board_quiet : FnScope N_Board_quiet ["self", "line"] (C8.fnScope s_Board_quiet) := C8.fnScope_by (by decide +kernel)
theorem ok_Board_quiet {fd : FuncData} (T : Txt K mg) (F : FunD K "quiet" "Board.quiet" (C8.fnArgs s_Board_quiet) (C8.fnBody s_Board_quiet) (C8.fnScope s_Board_quiet) [] [] (He.ma K (aC "Board" K) "quiet") fd) (c_check_line : C8.Met P w K mg base 2 (aC "Board" K) "_check_line" (sp_Board_check_line K) []) (c_is_edge : C8.Met P w K mg base 4 (aC "Board" K) "_is_edge" (sp_Board_is_edge K) []) (c_put_changed : C8.Cal P w K mg base 1 "put_changed" sp_put_changed []) :
    C8.Met P w K mg base 5 (aC "Board" K) "quiet" (sp_Board_quiet K) [] := by
  refine C8.met0 T.cl_Board T.m_Board_quiet (fun_c8 F) (F.bindsN fun _ _ _ _ _ _ us hl => match us, hl with | [_, _], _ => rfl) sc_Board_quiet (fun vs H Q E h => ?_) (fun cdv A outer s H vs Q E hr h => ?_)
  · obtain ⟨_, _, _, _, _, _, rfl, _⟩ := h
    rfl
  · have nd := sc_Board_quiet.nd
    have hu := hu_of hr
    obtain ⟨A, S, l, K0, b, M, rfl, ow, hl, hv, q⟩ := h
    refine ⟨_, (pss_cons (ps_expr (C8.pe_mt c_check_line hr (by decide) (pv 0) (pa_cons (pv 1) pa_nil)))
      (pss_cons (ps_if (pt_val (C8.pe_mt c_is_edge hr (by decide) (pv 0) (pa_cons (pv 1) pa_nil))) (pss_one ps_never) pss_nil)
      (pss_one (ps_ret (C8.pe_c c_put_changed hr (by decide) rfl (pa_cons (pe_fld (pv 0) rfl) (pa_cons (pv 1) (pa_cons pe_bl pa_nil)))))))), ?_⟩
    have B := ow.at_
    have h1 := B.at_
    have sp := ow.sp
    have hm := B.ok.mem hl
    refine ⟨_, rfl, A.bo, A.db, _, rfl, h1, rfl, _, rfl, A, S, l, rfl, B, hl, ?_⟩
    refine ⟨_, rfl, A.bo, A.db, _, rfl, h1, rfl, _, rfl, A, S, l, rfl, B, hl, false, congrArg V.bl (by rw [hv]; rfl), iteF ?_⟩
    refine ⟨_, rfl, _, _, _, _, _, rfl, h1, T.cl_Board, T.t_Board_rung, rfl, _, rfl, A.r, l.name, false, S.order, b.rung, rfl, sp.c0, hm, B.ok.len, ?_⟩
    rw [nb']
    exact q _ ⟨ow.fb, ow.fl, sp.put0⟩
abbrev N_Board_mask : List Str := ["self", "line"]
theorem sc_Board_mask : FnScope N_Board_mask ["self", "line"] (C8.fnScope s_Board_mask) := C8.fnScope_by (by decide +kernel)
theorem ok_Board_mask {fd : FuncData} (T : Txt K mg) (F : FunD K "mask" "Board.mask" (C8.fnArgs s_Board_mask) (C8.fnBody s_Board_mask) (C8.fnScope s_Board_mask) [] [] (He.ma K (aC "Board" K) "mask") fd) (c_check_line : C8.Met P w K mg base 2 (aC "Board" K) "_check_line" (sp_Board_check_line K) []) (c_put_changed : C8.Cal P w K mg base 1 "put_changed" sp_put_changed []) :
    C8.Met P w K mg base 3 (aC "Board" K) "mask" (sp_Board_mask K) [] := by
  refine C8.met0 T.cl_Board T.m_Board_mask (fun_c8 F) (F.bindsN fun _ _ _ _ _ _ us hl => match us, hl with | [_, _], _ => rfl) sc_Board_mask (fun vs H Q E h => ?_) (fun cdv A outer s H vs Q E hr h => ?_)
  · obtain ⟨_, _, _, _, _, _, rfl, _⟩ := h
    rfl
  · have nd := sc_Board_mask.nd
    have hu := hu_of hr
    obtain ⟨A, S, l, K0, b, M, rfl, ow, hl, q⟩ := h
    refine ⟨_, (pss_cons (ps_expr (C8.pe_mt c_check_line hr (by decide) (pv 0) (pa_cons (pv 1) pa_nil)))
      (pss_one (ps_ret (C8.pe_c c_put_changed hr (by decide) rfl (pa_cons (pe_fld (pv 0) rfl) (pa_cons (pv 1) (pa_cons pe_bl pa_nil))))))), ?_⟩
    have B := ow.at_
    have h1 := B.at_
    have sp := ow.sp
    have hm := B.ok.mem hl
    refine ⟨_, rfl, A.bo, A.db, _, rfl, h1, rfl, _, rfl, A, S, l, rfl, B, hl, ?_⟩
    refine ⟨_, rfl, _, _, _, _, _, rfl, h1, T.cl_Board, T.t_Board_disabled, rfl, _, rfl, A.d, l.name, true, S.order, b.dis, rfl, sp.c1, hm, B.ok.len, ?_⟩
    rw [nb]
    exact q _ ⟨ow.fb, ow.fl, sp.put1⟩
abbrev N_Board_unmask : List Str := ["self", "line"]
theorem sc_Board_unmask : FnScope N_Board_unmask ["self", "line"] (C8.fnScope s_Board_unmask) := C8.fnScope_by (by decide +kernel)
theorem ok_Board_unmask {fd : FuncData} (T : Txt K mg) (F : FunD K "unmask" "Board.unmask" (C8.fnArgs s_Board_unmask) (C8.fnBody s_Board_unmask) (C8.fnScope s_Board_unmask) [] [] (He.ma K (aC "Board" K) "unmask") fd) (c_check_line : C8.Met P w K mg base 2 (aC "Board" K) "_check_line" (sp_Board_check_line K) []) (c_put_changed : C8.Cal P w K mg base 1 "put_changed" sp_put_changed []) :
    C8.Met P w K mg base 3 (aC "Board" K) "unmask" (sp_Board_unmask K) [] := by
  refine C8.met0 T.cl_Board T.m_Board_unmask (fun_c8 F) (F.bindsN fun _ _ _ _ _ _ us hl => match us, hl with | [_, _], _ => rfl) sc_Board_unmask (fun vs H Q E h => ?_) (fun cdv A outer s H vs Q E hr h => ?_)
  · obtain ⟨_, _, _, _, _, _, rfl, _⟩ := h
    rfl
  · have nd := sc_Board_unmask.nd
    have hu := hu_of hr
    obtain ⟨A, S, l, K0, b, M, rfl, ow, hl, q⟩ := h
    refine ⟨_, (pss_cons (ps_expr (C8.pe_mt c_check_line hr (by decide) (pv 0) (pa_cons (pv 1) pa_nil)))
      (pss_one (ps_ret (C8.pe_c c_put_changed hr (by decide) rfl (pa_cons (pe_fld (pv 0) rfl) (pa_cons (pv 1) (pa_cons pe_bl pa_nil))))))), ?_⟩
    have B := ow.at_
    have h1 := B.at_
    have sp := ow.sp
    have hm := B.ok.mem hl
    refine ⟨_, rfl, A.bo, A.db, _, rfl, h1, rfl, _, rfl, A, S, l, rfl, B, hl, ?_⟩
    refine ⟨_, rfl, _, _, _, _, _, rfl, h1, T.cl_Board, T.t_Board_disabled, rfl, _, rfl, A.d, l.name, false, S.order, b.dis, rfl, sp.c1, hm, B.ok.len, ?_⟩
    rw [nb']
    exact q _ ⟨ow.fb, ow.fl, sp.put1⟩
abbrev N_Board_set_flag : List Str := ["self", "flag"]
theorem sc_Board_set_flag : FnScope N_Board_set_flag ["self", "flag"] (C8.fnScope s_Board_set_flag) := C8.fnScope_by (by decide +kernel)
theorem ok_Board_set_flag {fd : FuncData} (T : Txt K mg) (F : FunD K "set_flag" "Board.set_flag" (C8.fnArgs s_Board_set_flag) (C8.fnBody s_Board_set_flag) (C8.fnScope s_Board_set_flag) [] [] (He.ma K (aC "Board" K) "set_flag") fd) (c_check_flag : C8.Cal P w K mg base 2 "check_flag" sp_check_flag []) (c_put_changedL : C8.Cal P w K mg base 1 "put_changed" sp_put_changedL []) :
    C8.Met P w K mg base 3 (aC "Board" K) "set_flag" (sp_Board_set_flag K) [] := by
  refine C8.met0 T.cl_Board T.m_Board_set_flag (fun_c8 F) (F.bindsN fun _ _ _ _ _ _ us hl => match us, hl with | [_, _], _ => rfl) sc_Board_set_flag (fun vs H Q E h => ?_) (fun cdv A outer s H vs Q E hr h => ?_)
  · obtain ⟨_, _, _, _, _, _, rfl, _⟩ := h
    rfl
  · have nd := sc_Board_set_flag.nd
    have hu := hu_of hr
    obtain ⟨A, S, f, K0, b, M, rfl, ow, h7, q⟩ := h
    refine ⟨_, (pss_cons (ps_expr (C8.pe_c c_check_flag hr (by decide) rfl (pa_cons (pv 1) pa_nil)))
      (pss_one (ps_ret (C8.pe_c c_put_changedL hr (by decide) rfl (pa_cons (pe_fld (pv 0) rfl) (pa_cons (pv 1) (pa_cons pe_bl pa_nil))))))), ?_⟩
    have B := ow.at_
    have h1 := B.at_
    have sp := ow.sp
    refine ⟨_, rfl, f, rfl, h7, ?_⟩
    refine ⟨_, rfl, _, _, _, _, _, rfl, h1, T.cl_Board, T.t_Board_flags, rfl, _, rfl, A.fl, f, true, b.fl, rfl, sp.c3, by have := ow.fl; omega, ?_⟩
    rw [nb]
    exact q _ ⟨ow.fb, by show (b.fl.set f true).length = 8; rw [List.length_set]; exact ow.fl, sp.put3⟩
abbrev N_Board_clear_flag : List Str := ["self", "flag"]
theorem sc_Board_clear_flag : FnScope N_Board_clear_flag ["self", "flag"] (C8.fnScope s_Board_clear_flag) := C8.fnScope_by (by decide +kernel)
theorem ok_Board_clear_flag {fd : FuncData} (T : Txt K mg) (F : FunD K "clear_flag" "Board.clear_flag" (C8.fnArgs s_Board_clear_flag) (C8.fnBody s_Board_clear_flag) (C8.fnScope s_Board_clear_flag) [] [] (He.ma K (aC "Board" K) "clear_flag") fd) (c_check_flag : C8.Cal P w K mg base 2 "check_flag" sp_check_flag []) (c_put_changedL : C8.Cal P w K mg base 1 "put_changed" sp_put_changedL []) :
    C8.Met P w K mg base 3 (aC "Board" K) "clear_flag" (sp_Board_clear_flag K) [] := by
  refine C8.met0 T.cl_Board T.m_Board_clear_flag (fun_c8 F) (F.bindsN fun _ _ _ _ _ _ us hl => match us, hl with | [_, _], _ => rfl) sc_Board_clear_flag (fun vs H Q E h => ?_) (fun cdv A outer s H vs Q E hr h => ?_)
  · obtain ⟨_, _, _, _, _, _, rfl, _⟩ := h
    rfl
  · have nd := sc_Board_clear_flag.nd
    have hu := hu_of hr
    obtain ⟨A, S, f, K0, b, M, rfl, ow, h7, q⟩ := h
    refine ⟨_, (pss_cons (ps_expr (C8.pe_c c_check_flag hr (by decide) rfl (pa_cons (pv 1) pa_nil)))
      (pss_one (ps_ret (C8.pe_c c_put_changedL hr (by decide) rfl (pa_cons (pe_fld (pv 0) rfl) (pa_cons (pv 1) (pa_cons pe_bl pa_nil))))))), ?_⟩
    have B := ow.at_
    have h1 := B.at_
    have sp := ow.sp
    refine ⟨_, rfl, f, rfl, h7, ?_⟩
    refine ⟨_, rfl, _, _, _, _, _, rfl, h1, T.cl_Board, T.t_Board_flags, rfl, _, rfl, A.fl, f, false, b.fl, rfl, sp.c3, by have := ow.fl; omega, ?_⟩
    rw [nb']
    exact q _ ⟨ow.fb, by show (b.fl.set f false).length = 8; rw [List.length_set]; exact ow.fl, sp.put3⟩
abbrev N_Board_act : List Str := ["self", "word", "what"]
theorem sc_Board_act : FnScope N_Board_act ["self", "word", "what"] (C8.fnScope s_Board_act) := C8.fnScope_by (by decide +kernel)
theorem ok_Board_act {fd : FuncData} (T : Txt K mg) (F : FunD K "act" "Board.act" (C8.fnArgs s_Board_act) (C8.fnBody s_Board_act) (C8.fnScope s_Board_act) [] [] (He.ma K (aC "Board" K) "act") fd) (c_ring : C8.Met P w K mg base 3 (aC "Board" K) "ring" (sp_Board_ring K) []) (c_quiet : C8.Met P w K mg base 5 (aC "Board" K) "quiet" (sp_Board_quiet K) []) (c_mask : C8.Met P w K mg base 3 (aC "Board" K) "mask" (sp_Board_mask K) []) (c_unmask : C8.Met P w K mg base 3 (aC "Board" K) "unmask" (sp_Board_unmask K) []) (c_set_flag : C8.Met P w K mg base 3 (aC "Board" K) "set_flag" (sp_Board_set_flag K) []) (c_clear_flag : C8.Met P w K mg base 3 (aC "Board" K) "clear_flag" (sp_Board_clear_flag K) []) :
    C8.Met P w K mg base 6 (aC "Board" K) "act" (sp_Board_act K) [] := by
  refine C8.met0 T.cl_Board T.m_Board_act (fun_c8 F) (F.bindsN fun _ _ _ _ _ _ us hl => match us, hl with | [_, _, _], _ => rfl) sc_Board_act (fun vs H Q E h => ?_) (fun cdv A outer s H vs Q E hr h => ?_)
  · obtain ⟨_, _, _, _, _, _, rfl, _⟩ := h
    rfl
  · have nd := sc_Board_act.nd
    have hu := hu_of hr
    obtain ⟨A, S, st, K0, b, M, rfl, ow, ok, on, q⟩ := h
    refine ⟨_, (pss_one (ps_if (pt_cmpR op_eq (pv 1) pe_str (nomark _)) (pss_one (ps_expr (C8.pe_mt c_ring hr (by decide) (pv 0) (pa_cons (pv 2) pa_nil)))) (pss_one (ps_if (pt_cmpR op_eq (pv 1) pe_str (nomark _)) (pss_one (ps_expr (C8.pe_mt c_quiet hr (by decide) (pv 0) (pa_cons (pv 2) pa_nil)))) (pss_one (ps_if (pt_cmpR op_eq (pv 1) pe_str (nomark _)) (pss_one (ps_expr (C8.pe_mt c_mask hr (by decide) (pv 0) (pa_cons (pv 2) pa_nil)))) (pss_one (ps_if (pt_cmpR op_eq (pv 1) pe_str (nomark _)) (pss_one (ps_expr (C8.pe_mt c_unmask hr (by decide) (pv 0) (pa_cons (pv 2) pa_nil)))) (pss_one (ps_if (pt_cmpR op_eq (pv 1) pe_str (nomark _)) (pss_one (ps_expr (C8.pe_mt c_set_flag hr (by decide) (pv 0) (pa_cons (pv 2) pa_nil)))) (pss_one (ps_if (pt_cmpR op_eq (pv 1) pe_str (nomark _)) (pss_one (ps_expr (C8.pe_mt c_clear_flag hr (by decide) (pv 0) (pa_cons (pv 2) pa_nil)))) pss_nil)))))))))))), ?_⟩
    have B := ow.at_
    have h1 := B.at_
    have sp := ow.sp
    cases st with
    | ring n =>
      obtain ⟨l, hl, rfl⟩ := ok
      exact ⟨_, rfl, rfl, true, rfl, iteT ⟨_, rfl, A.bo, A.db, _, rfl, h1, rfl, _, rfl, A, S, l, K0, b, M, rfl, ow, hl, q⟩⟩
    | quiet n =>
      obtain ⟨l, hl, rfl, hv⟩ := ok
      exact ⟨_, rfl, rfl, false, rfl, iteF ⟨_, rfl, rfl, true, rfl, iteT ⟨_, rfl, A.bo, A.db, _, rfl, h1, rfl, _, rfl, A, S, l, K0, b, M, rfl, ow, hl, hv, q⟩⟩⟩
    | mask n =>
      obtain ⟨l, hl, rfl⟩ := ok
      exact ⟨_, rfl, rfl, false, rfl, iteF ⟨_, rfl, rfl, false, rfl, iteF ⟨_, rfl, rfl, true, rfl, iteT ⟨_, rfl, A.bo, A.db, _, rfl, h1, rfl, _, rfl, A, S, l, K0, b, M, rfl, ow, hl, q⟩⟩⟩⟩
    | unmask n =>
      obtain ⟨l, hl, rfl⟩ := ok
      exact ⟨_, rfl, rfl, false, rfl, iteF ⟨_, rfl, rfl, false, rfl, iteF ⟨_, rfl, rfl, false, rfl, iteF ⟨_, rfl, rfl, true, rfl, iteT ⟨_, rfl, A.bo, A.db, _, rfl, h1, rfl, _, rfl, A, S, l, K0, b, M, rfl, ow, hl, q⟩⟩⟩⟩⟩
    | setf f => exact ⟨_, rfl, rfl, false, rfl, iteF ⟨_, rfl, rfl, false, rfl, iteF ⟨_, rfl, rfl, false, rfl, iteF ⟨_, rfl, rfl, false, rfl, iteF ⟨_, rfl, rfl, true, rfl, iteT ⟨_, rfl, A.bo, A.db, _, rfl, h1, rfl, _, rfl, A, S, f, K0, b, M, rfl, ow, ok, q⟩⟩⟩⟩⟩⟩
    | clearf f => exact ⟨_, rfl, rfl, false, rfl, iteF ⟨_, rfl, rfl, false, rfl, iteF ⟨_, rfl, rfl, false, rfl, iteF ⟨_, rfl, rfl, false, rfl, iteF ⟨_, rfl, rfl, false, rfl, iteF ⟨_, rfl, rfl, true, rfl, iteT ⟨_, rfl, A.bo, A.db, _, rfl, h1, rfl, _, rfl, A, S, f, K0, b, M, rfl, ow, ok, q⟩⟩⟩⟩⟩⟩⟩
    | run n => cases on
    | await n => exact ⟨_, rfl, rfl, false, rfl, iteF ⟨_, rfl, rfl, false, rfl, iteF ⟨_, rfl, rfl, false, rfl, iteF ⟨_, rfl, rfl, false, rfl, iteF ⟨_, rfl, rfl, false, rfl, iteF ⟨_, rfl, rfl, false, rfl, iteF (q H ow)⟩⟩⟩⟩⟩⟩
    | bar n => cases on
    | later n => cases on
abbrev N_Board_begin : List Str := ["self", "line"]
theorem sc_Board_begin : FnScope N_Board_begin ["self", "line"] (C8.fnScope s_Board_begin) := C8.fnScope_by (by decide +kernel)
theorem ok_Board_begin {fd : FuncData} (T : Txt K mg) (F : FunD K "begin" "Board.begin" (C8.fnArgs s_Board_begin) (C8.fnBody s_Board_begin) (C8.fnScope s_Board_begin) [] [] (He.ma K (aC "Board" K) "begin") fd) (c_is_edge : C8.Met P w K mg base 4 (aC "Board" K) "_is_edge" (sp_Board_is_edge K) []) :
    C8.Met P w K mg base 5 (aC "Board" K) "begin" (sp_Board_begin K) [] := by
  refine C8.met0 T.cl_Board T.m_Board_begin (fun_c8 F) (F.bindsN fun _ _ _ _ _ _ us hl => match us, hl with | [_, _], _ => rfl) sc_Board_begin (fun vs H Q E h => ?_) (fun cdv A outer s H vs Q E hr h => ?_)
  · obtain ⟨_, _, _, _, _, _, rfl, _⟩ := h
    rfl
  · have nd := sc_Board_begin.nd
    have hu := hu_of hr
    obtain ⟨A, S, l, K0, b, M, rfl, ow, hl, q⟩ := h
    refine ⟨_, (pss_cons (ps_if (pt_val (C8.pe_mt c_is_edge hr (by decide) (pv 0) (pa_cons (pv 1) pa_nil))) (pss_one (ps_dput hu (pe_fld (pv 0) rfl) (pv 1) pe_bl rfl)) pss_nil)
      (pss_one (ps_dput hu (pe_fld (pv 0) rfl) (pv 1) pe_bl rfl))), ?_⟩
    have B := ow.at_
    have h1 := B.at_
    have sp := ow.sp
    have hm := B.ok.mem hl
    refine ⟨_, rfl, A.bo, A.db, _, rfl, h1, rfl, _, rfl, A, S, l, rfl, B, hl, _, rfl, ?_⟩
    cases e : l.lvl with
    | true =>
      have dp2 := DPut.k (k := .inr l.name) (v := .bl true) sp.c2 (bd_len B.ok _)
      rw [putK_bd hm] at dp2
      exact iteF ⟨_, rfl, _, _, _, _, _, rfl, h1, T.cl_Board, T.t_Board_under_way, rfl, _, rfl, A.u, _, rfl, dp2, q _ ⟨ow.fb, ow.fl, by unfold beginB; rw [e, if_pos rfl]; exact sp.put2⟩⟩
    | false =>
      have dp := DPut.k (k := .inr l.name) (v := .bl false) sp.c0 (bd_len B.ok _)
      rw [putK_bd hm] at dp
      refine iteT ⟨_, rfl, _, _, _, _, _, rfl, h1, T.cl_Board, T.t_Board_rung, rfl, _, rfl, A.r, _, rfl, dp, ?_⟩
      have sp2 := sp.put0 (o' := .dK (bd S.order (fset b.rung l.name false)))
      have h9 := sp2.ext _ _ ow.fb.at_
      have dp2 := DPut.k (k := .inr l.name) (v := .bl true) sp2.c2 (bd_len B.ok _)
      rw [putK_bd hm] at dp2
      exact ⟨_, rfl, _, _, _, _, _, rfl, h9, T.cl_Board, T.t_Board_under_way, rfl, _, rfl, A.u, _, rfl, dp2, q _ ⟨ow.fb, ow.fl, by unfold beginB; rw [e, if_neg (by simp)]; exact sp2.put2⟩⟩
abbrev N_Board_end : List Str := ["self", "line"]
theorem sc_Board_end : FnScope N_Board_end ["self", "line"] (C8.fnScope s_Board_end) := C8.fnScope_by (by decide +kernel)
theorem ok_Board_end {fd : FuncData} (T : Txt K mg) (F : FunD K "end" "Board.end" (C8.fnArgs s_Board_end) (C8.fnBody s_Board_end) (C8.fnScope s_Board_end) [] [] (He.ma K (aC "Board" K) "end") fd) :
    C8.Met P w K mg base 1 (aC "Board" K) "end" (sp_Board_end K) [] := by
  refine C8.met0 T.cl_Board T.m_Board_end (fun_c8 F) (F.bindsN fun _ _ _ _ _ _ us hl => match us, hl with | [_, _], _ => rfl) sc_Board_end (fun vs H Q E h => ?_) (fun cdv A outer s H vs Q E hr h => ?_)
  · obtain ⟨_, _, _, _, _, _, rfl, _⟩ := h
    rfl
  · have nd := sc_Board_end.nd
    have hu := hu_of hr
    obtain ⟨A, S, l, K0, b, M, rfl, ow, hl, q⟩ := h
    refine ⟨_, (pss_one (ps_dput hu (pe_fld (pv 0) rfl) (pv 1) pe_bl rfl)), ?_⟩
    have B := ow.at_
    have h1 := B.at_
    have sp := ow.sp
    have hm := B.ok.mem hl
    have dp := DPut.k (k := .inr l.name) (v := .bl false) sp.c2 (bd_len B.ok _)
    rw [putK_bd hm] at dp
    exact ⟨_, rfl, _, _, _, _, _, rfl, h1, T.cl_Board, T.t_Board_under_way, rfl, _, rfl, A.u, _, rfl, dp, q _ ⟨ow.fb, ow.fl, sp.put2⟩⟩
abbrev N_Board_is_up : List Str := ["self", "flag"]
theorem sc_Board_is_up : FnScope N_Board_is_up ["self", "flag"] (C8.fnScope s_Board_is_up) := C8.fnScope_by (by decide +kernel)
theorem ok_Board_is_up {fd : FuncData} (T : Txt K mg) (F : FunD K "is_up" "Board.is_up" (C8.fnArgs s_Board_is_up) (C8.fnBody s_Board_is_up) (C8.fnScope s_Board_is_up) [] [] (He.ma K (aC "Board" K) "is_up") fd) :
    C8.Met P w K mg base 1 (aC "Board" K) "is_up" (sp_Board_is_up K) [] := by
  refine C8.met0 T.cl_Board T.m_Board_is_up (fun_c8 F) (F.bindsN fun _ _ _ _ _ _ us hl => match us, hl with | [_, _], _ => rfl) sc_Board_is_up (fun vs H Q E h => ?_) (fun cdv A outer s H vs Q E hr h => ?_)
  · obtain ⟨_, _, _, _, _, _, rfl, _⟩ := h
    rfl
  · have nd := sc_Board_is_up.nd
    have hu := hu_of hr
    obtain ⟨A, S, f, K0, b, M, rfl, ow, h7, q⟩ := h
    refine ⟨_, (pss_one (ps_ret (pe_ix ix_list (pe_fld (pv 0) rfl) (pv 1) (fun _ _ => rfl)))), ?_⟩
    have B := ow.at_
    have h1 := B.at_
    have sp := ow.sp
    exact ⟨_, rfl, _, _, _, _, _, rfl, h1, T.cl_Board, T.t_Board_flags, rfl, _, rfl, _, _, _, _, rfl, rfl, l_of sp.c3, atF (by have := ow.fl; omega), q⟩
abbrev N_Board_is_enabled : List Str := ["self", "line"]
theorem sc_Board_is_enabled : FnScope N_Board_is_enabled ["self", "line"] (C8.fnScope s_Board_is_enabled) := C8.fnScope_by (by decide +kernel)
theorem ok_Board_is_enabled {fd : FuncData} (T : Txt K mg) (F : FunD K "is_enabled" "Board.is_enabled" (C8.fnArgs s_Board_is_enabled) (C8.fnBody s_Board_is_enabled) (C8.fnScope s_Board_is_enabled) [] [] (He.ma K (aC "Board" K) "is_enabled") fd) :
    C8.Met P w K mg base 1 (aC "Board" K) "is_enabled" (sp_Board_is_enabled K) [] := by
  refine C8.met0 T.cl_Board T.m_Board_is_enabled (fun_c8 F) (F.bindsN fun _ _ _ _ _ _ us hl => match us, hl with | [_, _], _ => rfl) sc_Board_is_enabled (fun vs H Q E h => ?_) (fun cdv A outer s H vs Q E hr h => ?_)
  · obtain ⟨_, _, _, _, _, _, rfl, _⟩ := h
    rfl
  · have nd := sc_Board_is_enabled.nd
    have hu := hu_of hr
    obtain ⟨A, S, l, K0, b, M, rfl, ow, hl, q⟩ := h
    refine ⟨_, (pss_one (ps_ret (pe_not (pe_dget hu (pe_fld (pv 0) rfl) (pv 1) (fun _ _ => rfl))))), ?_⟩
    have B := ow.at_
    have h1 := B.at_
    have sp := ow.sp
    have hm := B.ok.mem hl
    exact ⟨_, rfl, _, _, _, _, _, rfl, h1, T.cl_Board, T.t_Board_disabled, rfl, _, rfl, A.d, _, rfl, bd_at hm ▸ DGet.k (k := .inr l.name) sp.c1, _, rfl, q⟩
abbrev N_Board_is_high : List Str := ["self", "line"]
theorem sc_Board_is_high : FnScope N_Board_is_high ["self", "line"] (C8.fnScope s_Board_is_high) := C8.fnScope_by (by decide +kernel)
theorem ok_Board_is_high {fd : FuncData} (T : Txt K mg) (F : FunD K "is_high" "Board.is_high" (C8.fnArgs s_Board_is_high) (C8.fnBody s_Board_is_high) (C8.fnScope s_Board_is_high) [] [] (He.ma K (aC "Board" K) "is_high") fd) (c_is_edge : C8.Met P w K mg base 4 (aC "Board" K) "_is_edge" (sp_Board_is_edge K) []) :
    C8.Met P w K mg base 5 (aC "Board" K) "is_high" (sp_Board_is_high K) [] := by
  refine C8.met0 T.cl_Board T.m_Board_is_high (fun_c8 F) (F.bindsN fun _ _ _ _ _ _ us hl => match us, hl with | [_, _], _ => rfl) sc_Board_is_high (fun vs H Q E h => ?_) (fun cdv A outer s H vs Q E hr h => ?_)
  · obtain ⟨_, _, _, _, _, _, rfl, _⟩ := h
    rfl
  · have nd := sc_Board_is_high.nd
    have hu := hu_of hr
    obtain ⟨A, S, l, K0, b, M, rfl, ow, hl, q⟩ := h
    refine ⟨_, (pss_one (ps_ret (pe_and (pe_dget hu (pe_fld (pv 0) rfl) (pv 1) (fun _ _ => rfl)) (pe_one (pe_not (C8.pe_mt c_is_edge hr (by decide) (pv 0) (pa_cons (pv 1) pa_nil))))))), ?_⟩
    have B := ow.at_
    have h1 := B.at_
    have sp := ow.sp
    have hm := B.ok.mem hl
    refine ⟨_, rfl, _, _, _, _, _, rfl, h1, T.cl_Board, T.t_Board_rung, rfl, _, rfl, A.r, _, rfl, bd_at hm ▸ DGet.k (k := .inr l.name) sp.c0, _, rfl, ?_⟩
    cases e : b.rung l.name with
    | false =>
      rw [e] at q
      exact iteF q
    | true =>
      rw [e] at q
      refine iteT ⟨_, rfl, A.bo, A.db, _, rfl, h1, rfl, _, rfl, A, S, l, rfl, B, hl, _, rfl, ?_⟩
      rw [Bool.true_and] at q
      rw [Bool.not_not]
      exact q
abbrev N_Board_waits : List Str := ["self", "line"]
theorem sc_Board_waits : FnScope N_Board_waits ["self", "line"] (C8.fnScope s_Board_waits) := C8.fnScope_by (by decide +kernel)
theorem ok_Board_waits {fd : FuncData} (T : Txt K mg) (F : FunD K "waits" "Board.waits" (C8.fnArgs s_Board_waits) (C8.fnBody s_Board_waits) (C8.fnScope s_Board_waits) [] [] (He.ma K (aC "Board" K) "waits") fd) (c_is_edge : C8.Met P w K mg base 4 (aC "Board" K) "_is_edge" (sp_Board_is_edge K) []) :
    C8.Met P w K mg base 5 (aC "Board" K) "waits" (sp_Board_waits K) [] := by
  refine C8.met0 T.cl_Board T.m_Board_waits (fun_c8 F) (F.bindsN fun _ _ _ _ _ _ us hl => match us, hl with | [_, _], _ => rfl) sc_Board_waits (fun vs H Q E h => ?_) (fun cdv A outer s H vs Q E hr h => ?_)
  · obtain ⟨_, _, _, _, _, _, rfl, _⟩ := h
    rfl
  · have nd := sc_Board_waits.nd
    have hu := hu_of hr
    obtain ⟨A, S, l, K0, b, M, rfl, ow, hl, q⟩ := h
    refine ⟨_, (pss_one (ps_ret (pe_and (pe_dget hu (pe_fld (pv 0) rfl) (pv 1) (fun _ _ => rfl)) (pe_one (pe_or (C8.pe_mt c_is_edge hr (by decide) (pv 0) (pa_cons (pv 1) pa_nil)) (pe_one (pe_not (pe_dget hu (pe_fld (pv 0) rfl) (pv 1) (fun _ _ => rfl))))))))), ?_⟩
    have B := ow.at_
    have h1 := B.at_
    have sp := ow.sp
    have hm := B.ok.mem hl
    unfold waitsB at q
    refine ⟨_, rfl, _, _, _, _, _, rfl, h1, T.cl_Board, T.t_Board_rung, rfl, _, rfl, A.r, _, rfl, bd_at hm ▸ DGet.k (k := .inr l.name) sp.c0, _, rfl, ?_⟩
    cases e : b.rung l.name with
    | false =>
      rw [e] at q
      exact iteF q
    | true =>
      rw [e, Bool.true_and] at q
      refine iteT ⟨_, rfl, A.bo, A.db, _, rfl, h1, rfl, _, rfl, A, S, l, rfl, B, hl, _, rfl, ?_⟩
      cases e2 : l.lvl with
      | false =>
        rw [e2] at q
        exact iteT q
      | true =>
        rw [e2] at q
        exact iteF ⟨_, rfl, _, _, _, _, _, rfl, h1, T.cl_Board, T.t_Board_under_way, rfl, _, rfl, A.u, _, rfl, bd_at hm ▸ DGet.k (k := .inr l.name) sp.c2, _, rfl, q⟩
end
end Cb

namespace Cb
open PySem PySem.Spec PyProof.Rows L2

def no0 : Str → Int := fun _ => 0
def enaL (b : BdD) (l : LineD) : Bool := !b.dis l.name
def freeL (b : BdD) (l : LineD) : Bool := !b.und l.name
def nmsV (ls : List LineD) : List V := ls.map fun l => .str l.name
theorem nmsV_snoc {ls : List LineD} {l : LineD} : nmsV (ls ++ [l]) = nmsV ls ++ [.str l.name] := by simp [nmsV]
theorem lineOf_eq {S : SetD} (ok : SetOk S) {l : LineD} (h : l ∈ S.ls) : lineOf S l.name = l := by
  unfold lineOf
  cases e : S.ls.find? fun x => decide (x.name = l.name) with
  | none =>
    have := List.find?_eq_none.mp e l h
    simp at this
  | some x =>
    have h1 := List.mem_of_find?_eq_some e
    have h2 : x.name = l.name := of_decide_eq_true (List.find?_some (p := fun x : LineD => decide (x.name = l.name)) e)
    exact nm_inj ok.ok.nd h1 h h2
theorem lineOf_nm {S : SetD} (ok : SetOk S) {n : Str} (h : n ∈ S.order) : lineOf S n ∈ S.ls ∧ (lineOf S n).name = n := by
  obtain ⟨l, hl, rfl⟩ := ok.line h
  rw [lineOf_eq ok hl]
  exact ⟨hl, rfl⟩
theorem linesO_mem {S : SetD} (ok : SetOk S) {l : LineD} (h : l ∈ linesO S) : l ∈ S.ls := by
  obtain ⟨n, hn, rfl⟩ := List.mem_map.mp h
  exact (lineOf_nm ok hn).1
theorem order_nms {S : SetD} (ok : SetOk S) : S.order.map V.str = nmsV (linesO S) := by
  unfold nmsV linesO
  rw [List.map_map]
  exact List.map_congr_left fun n hn => by show V.str n = V.str (lineOf S n).name; rw [(lineOf_nm ok hn).2]
theorem linesO_len {S : SetD} (ok : SetOk S) : (linesO S).length ≤ 12 := by
  unfold linesO
  rw [List.length_map]
  exact ok.len
def listSp (f : BdD → LineD → Bool) (K : PySem.W.Frag) : Sp := fun vs H Q _ => ∃ (A : AdB) (S : SetD) (K0 : Hp) (b : BdD) (M : List (Addr × HO)), vs = [.ref A.bo] ∧ OwnB K A S K0 H b M ∧
  ∀ p H', Same H H' → H p = none → H' p = some (.lst (nmsV ((linesO S).filter (f b)))) → Q (.ref p) H'
def disL (b : BdD) (l : LineD) : Bool := b.dis l.name
def highL (b : BdD) (l : LineD) : Bool := b.rung l.name && l.lvl
def sp_Board_waiting_lines (K : PySem.W.Frag) : Sp := listSp waitsB K
def sp_Board_ready_lines (K : PySem.W.Frag) : Sp := listSp readyB K
def sp_Board_disabled_lines (K : PySem.W.Frag) : Sp := listSp disL K
def sp_Board_high_lines (K : PySem.W.Frag) : Sp := listSp highL K
def upF (b : BdD) : List Int := ((List.range 8).filter fun i => b.fl.getD i false).map fun i : Nat => (i : Int)
def sp_Board_raised_flags (K : PySem.W.Frag) : Sp := fun vs H Q _ => ∃ (A : AdB) (S : SetD) (K0 : Hp) (b : BdD) (M : List (Addr × HO)), vs = [.ref A.bo] ∧ OwnB K A S K0 H b M ∧
  ∀ p H', Same H H' → H p = none → H' p = some (.lst ((upF b).map V.int)) → Q (.ref p) H'
def bd0 : BdD := ⟨no, no, no, List.replicate 8 false, no0⟩
def sp_Board_init (K : PySem.W.Frag) : Sp := fun vs H Q _ => ∃ (x dx su : Addr) (S : SetD) (K0 : Hp) (M : List (Addr × HO)), vs = [.ref x, .ref su] ∧ Sep K0 H ((x, .ins (aC "Board" K) dx []) :: M) ∧ SetupAt K K0 su S ∧ SetOk S ∧
  ∀ K1 H' A, Same K0 K1 → A.bo = x → A.su = su → OwnB K A S K1 H' bd0 M → Q .non H'

section
variable {P : Program} {w : World} {K : PySem.W.Frag} {mg : Str → Option Value} {base : Heap}

abbrev N_Board_waiting_lines : List Str := ["self", "line"]
theorem sc_Board_waiting_lines : FnScope N_Board_waiting_lines ["self"] (C8.fnScope s_Board_waiting_lines) := C8.fnScope_by (by decide +kernel)
theorem ok_Board_waiting_lines {fd : FuncData} (T : Txt K mg) (F : FunD K "waiting_lines" "Board.waiting_lines" (C8.fnArgs s_Board_waiting_lines) (C8.fnBody s_Board_waiting_lines) (C8.fnScope s_Board_waiting_lines) [] [] (He.ma K (aC "Board" K) "waiting_lines") fd) (c_order : FnP P w K mg base 1 (prA "Setup" "order" K) (sp_Setup_order K)) (c_waits : C8.Met P w K mg base 5 (aC "Board" K) "waits" (sp_Board_waits K) []) :
    C8.Met P w K mg base 6 (aC "Board" K) "waiting_lines" (sp_Board_waiting_lines K) [] := by
  refine C8.met0 T.cl_Board T.m_Board_waiting_lines (fun_c8 F) (F.bindsN fun _ _ _ _ _ _ us hl => match us, hl with | [_], _ => rfl) sc_Board_waiting_lines (fun vs H Q E h => ?_) (fun cdv A outer s H vs Q E hr h => ?_)
  · obtain ⟨_, _, _, _, _, rfl, _⟩ := h
    rfl
  · have nd := sc_Board_waiting_lines.nd
    have hu := hu_of hr
    obtain ⟨A, S, K0, b, M, rfl, ow, q⟩ := h
    obtain ⟨p, hpo⟩ := T.p_Setup_order
    refine ⟨_, (pss_one (ps_ret (pe_lc (own := [("line", 1)]) rfl nd (pi_tup (C_prop hpo T.cl_Setup c_order hr (by decide) (pe_fld (pv 0) rfl))) (blkOk_by (own := [("line", 1)]) (N := N_Board_waiting_lines) (sc := (C8.fnScope s_Board_waiting_lines)) (by decide +kernel)) (fun _ _ _ _ _ => (pg_name (i := 1) nd rfl (Or.inl rfl))) (fun _ _ _ _ _ => (pts_one (pt_val (C8.pe_mt c_waits hr (by decide) (pv 0) (pa_cons (pv 1) pa_nil))))) (fun _ _ _ _ _ => (pv 1))))), ?_⟩
    have B := ow.at_
    have h1 := B.at_
    obtain ⟨dx2, _, _, _, _, _, h3, _⟩ := B.su.ex
    refine ⟨_, rfl, _, _, _, _, _, rfl, h1, T.cl_Board, T.t_Board_setup, rfl, A.su, dx2, _, rfl, h3, A.su, S, H, rfl, B.su, Same.refl H, fun oa hoa => ?_⟩
    rw [order_nms B.ok] at hoa
    refine ⟨_, rfl, ⟨_, t_of hoa⟩, fun D hD => ?_⟩
    refine lc_it (walk_tup (xs := nmsV (linesO S))) (fun i H' => Sep H H' ((D, .lst (nmsV (((linesO S).take i).filter (waitsB b)))) :: [])) ((Sep.nil (H := H)).own hD) ?_ ?_ ?_
    · rintro i H' _ sp'
      exact t_of (sp'.ext _ _ hoa)
    · rintro i v H3 H4 hi sp' ⟨rfl, e2⟩
      unfold nmsV at e2
      rw [List.getElem?_map] at e2
      obtain ⟨l, hlo, rfl⟩ := Option.map_eq_some_iff.mp e2
      have hl : l ∈ S.ls := linesO_mem B.ok (List.mem_of_getElem? hlo)
      have ow' := ow.grow sp'.ext
      have h1' := ow'.at_.at_
      have hm := ow'.at_.ok.mem hl
      refine ⟨rfl, _, rfl, A.bo, A.db, _, rfl, h1', rfl, _, rfl, A, S, l, K0, b, M, rfl, ow', hl, _, rfl, ?_⟩
      rw [filter_snoc (waitsB b) hlo]
      cases e : waitsB b l with
      | true =>
        refine iteT ⟨_, rfl, _, sp'.c0, ?_, ?_⟩
        · have z1 := List.length_filter_le (waitsB b) ((linesO S).take i)
          have z2 : (linesO S).length ≤ 12 := linesO_len B.ok
          exact sml (m := 12) (by unfold nmsV; simp at z1 ⊢; omega) (by decide)
        · rw [if_pos rfl, nmsV_snoc]
          exact sp'.put0
      | false =>
        refine iteF ?_
        rw [if_neg (by simp), List.append_nil]
        exact sp'
    · rintro H1 sp'
      rw [List.take_of_length_le (by unfold nmsV; simp)] at sp'
      exact q D H1 sp'.ext hD sp'.c0
abbrev N_Board_high_lines : List Str := ["self", "line"]
theorem sc_Board_high_lines : FnScope N_Board_high_lines ["self"] (C8.fnScope s_Board_high_lines) := C8.fnScope_by (by decide +kernel)
theorem ok_Board_high_lines {fd : FuncData} (T : Txt K mg) (F : FunD K "high_lines" "Board.high_lines" (C8.fnArgs s_Board_high_lines) (C8.fnBody s_Board_high_lines) (C8.fnScope s_Board_high_lines) [] [] (He.ma K (aC "Board" K) "high_lines") fd) (c_order : FnP P w K mg base 1 (prA "Setup" "order" K) (sp_Setup_order K)) (c_is_high : C8.Met P w K mg base 5 (aC "Board" K) "is_high" (sp_Board_is_high K) []) :
    C8.Met P w K mg base 6 (aC "Board" K) "high_lines" (sp_Board_high_lines K) [] := by
  refine C8.met0 T.cl_Board T.m_Board_high_lines (fun_c8 F) (F.bindsN fun _ _ _ _ _ _ us hl => match us, hl with | [_], _ => rfl) sc_Board_high_lines (fun vs H Q E h => ?_) (fun cdv A outer s H vs Q E hr h => ?_)
  · obtain ⟨_, _, _, _, _, rfl, _⟩ := h
    rfl
  · have nd := sc_Board_high_lines.nd
    have hu := hu_of hr
    obtain ⟨A, S, K0, b, M, rfl, ow, q⟩ := h
    obtain ⟨p, hpo⟩ := T.p_Setup_order
    refine ⟨_, (pss_one (ps_ret (pe_lc (own := [("line", 1)]) rfl nd (pi_tup (C_prop hpo T.cl_Setup c_order hr (by decide) (pe_fld (pv 0) rfl))) (blkOk_by (own := [("line", 1)]) (N := N_Board_high_lines) (sc := (C8.fnScope s_Board_high_lines)) (by decide +kernel)) (fun _ _ _ _ _ => (pg_name (i := 1) nd rfl (Or.inl rfl))) (fun _ _ _ _ _ => (pts_one (pt_val (C8.pe_mt c_is_high hr (by decide) (pv 0) (pa_cons (pv 1) pa_nil))))) (fun _ _ _ _ _ => (pv 1))))), ?_⟩
    have B := ow.at_
    have h1 := B.at_
    obtain ⟨dx2, _, _, _, _, _, h3, _⟩ := B.su.ex
    refine ⟨_, rfl, _, _, _, _, _, rfl, h1, T.cl_Board, T.t_Board_setup, rfl, A.su, dx2, _, rfl, h3, A.su, S, H, rfl, B.su, Same.refl H, fun oa hoa => ?_⟩
    rw [order_nms B.ok] at hoa
    refine ⟨_, rfl, ⟨_, t_of hoa⟩, fun D hD => ?_⟩
    refine lc_it (walk_tup (xs := nmsV (linesO S))) (fun i H' => Sep H H' ((D, .lst (nmsV (((linesO S).take i).filter (highL b)))) :: [])) ((Sep.nil (H := H)).own hD) ?_ ?_ ?_
    · rintro i H' _ sp'
      exact t_of (sp'.ext _ _ hoa)
    · rintro i v H3 H4 hi sp' ⟨rfl, e2⟩
      unfold nmsV at e2
      rw [List.getElem?_map] at e2
      obtain ⟨l, hlo, rfl⟩ := Option.map_eq_some_iff.mp e2
      have hl : l ∈ S.ls := linesO_mem B.ok (List.mem_of_getElem? hlo)
      have ow' := ow.grow sp'.ext
      have h1' := ow'.at_.at_
      have hm := ow'.at_.ok.mem hl
      refine ⟨rfl, _, rfl, A.bo, A.db, _, rfl, h1', rfl, _, rfl, A, S, l, K0, b, M, rfl, ow', hl, _, rfl, ?_⟩
      rw [filter_snoc (highL b) hlo]
      cases e : (b.rung l.name && l.lvl) with
      | true =>
        refine iteT ⟨_, rfl, _, sp'.c0, ?_, ?_⟩
        · have z1 := List.length_filter_le (highL b) ((linesO S).take i)
          have z2 : (linesO S).length ≤ 12 := linesO_len B.ok
          exact sml (m := 12) (by unfold nmsV; simp at z1 ⊢; omega) (by decide)
        · rw [if_pos (show (highL b) l = true by unfold highL; first | (rw [e]; done) | (rw [e]; rfl)), nmsV_snoc]
          exact sp'.put0
      | false =>
        refine iteF ?_
        rw [if_neg (show ¬ (highL b) l = true by unfold highL; rw [e]; simp), List.append_nil]
        exact sp'
    · rintro H1 sp'
      rw [List.take_of_length_le (by unfold nmsV; simp)] at sp'
      exact q D H1 sp'.ext hD sp'.c0
abbrev N_Board_disabled_lines : List Str := ["self", "line"]
theorem sc_Board_disabled_lines : FnScope N_Board_disabled_lines ["self"] (C8.fnScope s_Board_disabled_lines) := C8.fnScope_by (by decide +kernel)
theorem ok_Board_disabled_lines {fd : FuncData} (T : Txt K mg) (F : FunD K "disabled_lines" "Board.disabled_lines" (C8.fnArgs s_Board_disabled_lines) (C8.fnBody s_Board_disabled_lines) (C8.fnScope s_Board_disabled_lines) [] [] (He.ma K (aC "Board" K) "disabled_lines") fd) (c_order : FnP P w K mg base 1 (prA "Setup" "order" K) (sp_Setup_order K)) :
    C8.Met P w K mg base 3 (aC "Board" K) "disabled_lines" (sp_Board_disabled_lines K) [] := by
  refine C8.met0 T.cl_Board T.m_Board_disabled_lines (fun_c8 F) (F.bindsN fun _ _ _ _ _ _ us hl => match us, hl with | [_], _ => rfl) sc_Board_disabled_lines (fun vs H Q E h => ?_) (fun cdv A outer s H vs Q E hr h => ?_)
  · obtain ⟨_, _, _, _, _, rfl, _⟩ := h
    rfl
  · have nd := sc_Board_disabled_lines.nd
    have hu := hu_of hr
    obtain ⟨A, S, K0, b, M, rfl, ow, q⟩ := h
    obtain ⟨p, hpo⟩ := T.p_Setup_order
    refine ⟨_, (pss_one (ps_ret (pe_lc (own := [("line", 1)]) rfl nd (pi_tup (C_prop hpo T.cl_Setup c_order hr (by decide) (pe_fld (pv 0) rfl))) (blkOk_by (own := [("line", 1)]) (N := N_Board_disabled_lines) (sc := (C8.fnScope s_Board_disabled_lines)) (by decide +kernel)) (fun _ _ _ _ _ => (pg_name (i := 1) nd rfl (Or.inl rfl))) (fun _ _ _ _ _ => (pts_one (pt_val (pe_dget hu (pe_fld (pv 0) rfl : PE _ _ (tFld K _ _)) (pv 1) (fun _ _ => rfl))))) (fun _ _ _ _ _ => (pv 1))))), ?_⟩
    have B := ow.at_
    have h1 := B.at_
    obtain ⟨dx2, _, _, _, _, _, h3, _⟩ := B.su.ex
    refine ⟨_, rfl, _, _, _, _, _, rfl, h1, T.cl_Board, T.t_Board_setup, rfl, A.su, dx2, _, rfl, h3, A.su, S, H, rfl, B.su, Same.refl H, fun oa hoa => ?_⟩
    rw [order_nms B.ok] at hoa
    refine ⟨_, rfl, ⟨_, t_of hoa⟩, fun D hD => ?_⟩
    refine lc_it (walk_tup (xs := nmsV (linesO S))) (fun i H' => Sep H H' ((D, .lst (nmsV (((linesO S).take i).filter (disL b)))) :: [])) ((Sep.nil (H := H)).own hD) ?_ ?_ ?_
    · rintro i H' _ sp'
      exact t_of (sp'.ext _ _ hoa)
    · rintro i v H3 H4 hi sp' ⟨rfl, e2⟩
      unfold nmsV at e2
      rw [List.getElem?_map] at e2
      obtain ⟨l, hlo, rfl⟩ := Option.map_eq_some_iff.mp e2
      have hl : l ∈ S.ls := linesO_mem B.ok (List.mem_of_getElem? hlo)
      have ow' := ow.grow sp'.ext
      have h1' := ow'.at_.at_
      have hm := ow'.at_.ok.mem hl
      refine ⟨rfl, _, rfl, _, _, _, _, _, rfl, h1', T.cl_Board, T.t_Board_disabled, rfl, _, rfl, A.d, _, rfl, bd_at hm ▸ DGet.k (k := .inr l.name) ow'.sp.c1, _, rfl, ?_⟩
      rw [filter_snoc (disL b) hlo]
      cases e : b.dis l.name with
      | true =>
        refine iteT ⟨_, rfl, _, sp'.c0, ?_, ?_⟩
        · have z1 := List.length_filter_le (disL b) ((linesO S).take i)
          have z2 : (linesO S).length ≤ 12 := linesO_len B.ok
          exact sml (m := 12) (by unfold nmsV; simp at z1 ⊢; omega) (by decide)
        · rw [if_pos (show (disL b) l = true by unfold disL; first | (rw [e]; done) | (rw [e]; rfl)), nmsV_snoc]
          exact sp'.put0
      | false =>
        refine iteF ?_
        rw [if_neg (show ¬ (disL b) l = true by unfold disL; rw [e]; simp), List.append_nil]
        exact sp'
    · rintro H1 sp'
      rw [List.take_of_length_le (by unfold nmsV; simp)] at sp'
      exact q D H1 sp'.ext hD sp'.c0
abbrev N_Board_ready_lines : List Str := ["self", "enabled", "line"]
theorem sc_Board_ready_lines : FnScope N_Board_ready_lines ["self"] (C8.fnScope s_Board_ready_lines) := C8.fnScope_by (by decide +kernel)
theorem ok_Board_ready_lines {fd : FuncData} (T : Txt K mg) (F : FunD K "ready_lines" "Board.ready_lines" (C8.fnArgs s_Board_ready_lines) (C8.fnBody s_Board_ready_lines) (C8.fnScope s_Board_ready_lines) [] [] (He.ma K (aC "Board" K) "ready_lines") fd) (c_waiting_lines : C8.Met P w K mg base 6 (aC "Board" K) "waiting_lines" (sp_Board_waiting_lines K) []) (c_is_enabled : C8.Met P w K mg base 1 (aC "Board" K) "is_enabled" (sp_Board_is_enabled K) []) :
    C8.Met P w K mg base 7 (aC "Board" K) "ready_lines" (sp_Board_ready_lines K) [] := by
  refine C8.met0 T.cl_Board T.m_Board_ready_lines (fun_c8 F) (F.bindsN fun _ _ _ _ _ _ us hl => match us, hl with | [_], _ => rfl) sc_Board_ready_lines (fun vs H Q E h => ?_) (fun cdv A outer s H vs Q E hr h => ?_)
  · obtain ⟨_, _, _, _, _, rfl, _⟩ := h
    rfl
  · have nd := sc_Board_ready_lines.nd
    have hu := hu_of hr
    obtain ⟨A, S, K0, b, M, rfl, ow, q⟩ := h
    refine ⟨_, (pss_cons (ps_setLc (i := 1) (own := [("line", 2)]) rfl nd rfl rfl (sw_true rfl rfl rfl (by decide +kernel)) (pi_list (C8.pe_mt0 c_waiting_lines hr (by decide) (pv 0))) (blkOk_by (own := [("line", 2)]) (N := N_Board_ready_lines) (sc := (C8.fnScope s_Board_ready_lines)) (by decide +kernel)) (fun _ _ _ _ _ => (pg_name (i := 2) nd rfl (Or.inl rfl))) (fun _ _ _ _ _ => (pts_one (pt_val (C8.pe_mt c_is_enabled hr (by decide) (pv 0) (pa_cons (pv 2) pa_nil))))) (fun _ _ _ _ _ => (pv 2)))
      (pss_one (ps_ret (pe_lc (own := [("line", 2)]) rfl nd (pi_list (pv 1)) (blkOk_by (own := [("line", 2)]) (N := N_Board_ready_lines) (sc := (C8.fnScope s_Board_ready_lines)) (by decide +kernel)) (fun _ _ _ _ _ => (pg_name (i := 2) nd rfl (Or.inl rfl))) (fun _ _ _ _ _ => (pts_one (pt_not (pt_val (pe_dget hu (pe_fld (pv 0) rfl : PE _ _ (tFld K _ _)) (pv 2) (fun _ _ => rfl)))))) (fun _ _ _ _ _ => (pv 2)))))), ?_⟩
    have B := ow.at_
    have h1 := B.at_
    refine ⟨_, rfl, A.bo, A.db, _, rfl, h1, rfl, A, S, K0, b, M, rfl, ow, fun p H1 g1 hp hp1 => ?_⟩
    generalize eW : (linesO S).filter (waitsB b) = WL at hp1
    have memW : ∀ l ∈ WL, l ∈ S.ls := fun l hl => linesO_mem B.ok (List.mem_filter.mp (eW ▸ hl)).1
    have lenW : WL.length ≤ 12 := by
      rw [← eW]
      exact Nat.le_trans (List.length_filter_le _ _) (linesO_len B.ok)
    have s1 : Sep H H1 [(p, .lst (nmsV WL))] := Sep.nil.own' g1 hp hp1
    refine ⟨_, rfl, ⟨_, l_of hp1⟩, fun D hD => ?_⟩
    refine lc_it (walk_list (xs := nmsV WL)) (fun i H' => Sep H H' ((D, .lst (nmsV ((WL.take i).filter (enaL b)))) :: [(p, .lst (nmsV WL))])) (s1.own hD) ?_ ?_ ?_
    · rintro i H' _ sp'
      exact l_of sp'.c1
    · rintro i v H3 H4 hi sp' ⟨rfl, e2⟩
      unfold nmsV at e2
      rw [List.getElem?_map] at e2
      obtain ⟨l, hlo, rfl⟩ := Option.map_eq_some_iff.mp e2
      have hl : l ∈ S.ls := memW l (List.mem_of_getElem? hlo)
      have ow' := ow.grow sp'.ext
      have h1' := ow'.at_.at_
      have hm := ow'.at_.ok.mem hl
      refine ⟨rfl, _, rfl, A.bo, A.db, _, rfl, h1', rfl, _, rfl, A, S, l, K0, b, M, rfl, ow', hl, _, rfl, ?_⟩
      rw [filter_snoc (enaL b) hlo]
      cases e : (!b.dis l.name) with
      | true =>
        refine iteT ⟨_, rfl, _, sp'.c0, ?_, ?_⟩
        · have z1 := List.length_filter_le (enaL b) (WL.take i)
          have z2 : WL.length ≤ 12 := lenW
          exact sml (m := 12) (by unfold nmsV; simp at z1 ⊢; omega) (by decide)
        · rw [if_pos (show (enaL b) l = true by unfold enaL; first | (rw [e]; done) | (rw [e]; rfl)), nmsV_snoc]
          exact sp'.put0
      | false =>
        refine iteF ?_
        rw [if_neg (show ¬ (enaL b) l = true by unfold enaL; rw [e]; simp), List.append_nil]
        exact sp'
    rintro H2 s2
    rw [List.take_of_length_le (by unfold nmsV; simp)] at s2
    generalize eV : WL.filter (enaL b) = VL at s2
    have memV : ∀ l ∈ VL, l ∈ S.ls := fun l hl => memW l (List.mem_filter.mp (eV ▸ hl)).1
    have lenV : VL.length ≤ 12 := by
      rw [← eV]
      exact Nat.le_trans (List.length_filter_le _ _) lenW
    refine ⟨_, rfl, _, rfl, ⟨_, l_of s2.c0⟩, fun D2 hD2 => ?_⟩
    refine lc_it (walk_list (xs := nmsV VL)) (fun i H' => Sep H H' ((D2, .lst (nmsV ((VL.take i).filter (freeL b)))) :: [(D, .lst (nmsV VL)), (p, .lst (nmsV WL))])) (s2.own hD2) ?_ ?_ ?_
    · rintro i H' _ sp'
      exact l_of sp'.c1
    · rintro i v H3 H4 hi sp' ⟨rfl, e2⟩
      unfold nmsV at e2
      rw [List.getElem?_map] at e2
      obtain ⟨l, hlo, rfl⟩ := Option.map_eq_some_iff.mp e2
      have hl : l ∈ S.ls := memV l (List.mem_of_getElem? hlo)
      have ow' := ow.grow sp'.ext
      have h1' := ow'.at_.at_
      have hm := ow'.at_.ok.mem hl
      refine ⟨rfl, _, rfl, _, _, _, _, _, rfl, h1', T.cl_Board, T.t_Board_under_way, rfl, _, rfl, A.u, _, rfl, bd_at hm ▸ DGet.k (k := .inr l.name) ow'.sp.c2, _, rfl, ?_⟩
      rw [filter_snoc (freeL b) hlo]
      cases e : b.und l.name with
      | false =>
        refine iteT ⟨_, rfl, _, sp'.c0, ?_, ?_⟩
        · have z1 := List.length_filter_le (freeL b) (VL.take i)
          have z2 : VL.length ≤ 12 := lenV
          exact sml (m := 12) (by unfold nmsV; simp at z1 ⊢; omega) (by decide)
        · rw [if_pos (show (freeL b) l = true by unfold freeL; first | (rw [e]; done) | (rw [e]; rfl)), nmsV_snoc]
          exact sp'.put0
      | true =>
        refine iteF ?_
        rw [if_neg (show ¬ (freeL b) l = true by unfold freeL; rw [e]; simp), List.append_nil]
        exact sp'
    rintro H3 s3
    rw [List.take_of_length_le (by unfold nmsV; simp)] at s3
    refine q D2 H3 s3.ext (Same.free s2.ext hD2) ?_
    have z := s3.c0
    rw [← eV, ← eW, List.filter_filter, List.filter_filter] at z
    rw [show (linesO S).filter (readyB b) = (linesO S).filter (fun a => (freeL b a && enaL b a) && waitsB b a) from List.filter_congr fun l _ => by unfold readyB freeL enaL; cases waitsB b l <;> cases b.dis l.name <;> cases b.und l.name <;> rfl]
    exact z
abbrev N_Board_raised_flags : List Str := ["self", "flag", "is_up"]
theorem sc_Board_raised_flags : FnScope N_Board_raised_flags ["self"] (C8.fnScope s_Board_raised_flags) := C8.fnScope_by (by decide +kernel)
theorem ok_Board_raised_flags {fd : FuncData} (T : Txt K mg) (F : FunD K "raised_flags" "Board.raised_flags" (C8.fnArgs s_Board_raised_flags) (C8.fnBody s_Board_raised_flags) (C8.fnScope s_Board_raised_flags) [] [] (He.ma K (aC "Board" K) "raised_flags") fd) :
    C8.Met P w K mg base 1 (aC "Board" K) "raised_flags" (sp_Board_raised_flags K) [] := by
  refine C8.met0 T.cl_Board T.m_Board_raised_flags (fun_c8 F) (F.bindsN fun _ _ _ _ _ _ us hl => match us, hl with | [_], _ => rfl) sc_Board_raised_flags (fun vs H Q E h => ?_) (fun cdv A outer s H vs Q E hr h => ?_)
  · obtain ⟨_, _, _, _, _, rfl, _⟩ := h
    rfl
  · have nd := sc_Board_raised_flags.nd
    have hu := hu_of hr
    obtain ⟨A, S, K0, b, M, rfl, ow, q⟩ := h
    refine ⟨_, (pss_one (ps_ret (pe_lc (own := [("flag", 1), ("is_up", 2)]) rfl nd (pi_enum (by rfl) T.n_enumerate (pa_cons (pe_fld (pv 0) rfl) pa_nil)) (blkOk_by (own := [("flag", 1), ("is_up", 2)]) (N := N_Board_raised_flags) (sc := (C8.fnScope s_Board_raised_flags)) (by decide +kernel)) (fun _ _ _ _ _ => (pg_tup (n := 2) rfl (pgs_cons (pg_name (i := 1) nd rfl (Or.inl rfl)) (pgs_cons (pg_name (i := 2) nd rfl (Or.inl rfl)) pgs_nil)) : PG _ _ (gTup K 2 _))) (fun _ _ _ _ _ => (pts_one (pt_val (pv 2)))) (fun _ _ _ _ _ => (pv 1))))), ?_⟩
    have B := ow.at_
    have h1 := B.at_
    have hfl := ow.fl
    have hF := ow.sp.c3
    refine ⟨_, rfl, _, _, _, _, _, rfl, h1, T.cl_Board, T.t_Board_flags, rfl, _, _, rfl, l_of hF, fun D hD => ?_⟩
    refine lc_it (walk_enum (xs := b.fl.map V.bl)) (fun i H' => Sep H H' [(D, .lst ((((List.range i).filter fun j => b.fl.getD j false).map fun j : Nat => (j : Int)).map V.int))]) (Sep.nil.own hD) ?_ ?_ ?_
    · rintro i H' _ sp'
      exact l_of (sp'.ext _ _ hF)
    · rintro i x H2 H3 hi sp' ⟨t, u, v, rfl, ht, rfl, e1, e2⟩
      obtain rfl := Option.some.inj e1
      have e2 : (b.fl.map V.bl)[i]? = some v := e2
      rw [List.getElem?_map] at e2
      obtain ⟨c, hc, rfl⟩ := Option.map_eq_some_iff.mp e2
      have sp1 := sp'.drop (o := .tup [.int (i : Nat), .bl c]) ht
      have hcd : b.fl.getD i false = c := by rw [List.getD_eq_getElem?_getD, hc]; rfl
      refine ⟨_, _, rfl, t_of upd_same, rfl, _, _, rfl, _, _, rfl, rfl, rfl, _, rfl, _, rfl, ?_⟩
      rw [List.range_succ, List.filter_append]
      cases c with
      | true =>
        refine iteT ⟨_, rfl, _, sp1.c0, ?_, ?_⟩
        · rw [List.length_map, List.length_map]
          have z1 := List.length_filter_le (fun j => b.fl.getD j false) (List.range i)
          rw [List.length_range] at z1
          rw [List.length_map] at hi
          exact sml (m := 12) (by omega) (by decide)
        · rw [show [i].filter (fun j => b.fl.getD j false) = [i] by simp only [List.filter_cons, List.filter_nil, hcd, if_true], List.map_append, List.map_append]
          exact sp1.put0
      | false =>
        refine iteF ?_
        rw [show [i].filter (fun j => b.fl.getD j false) = [] by simp only [List.filter_cons, List.filter_nil, hcd]; rfl, List.append_nil]
        exact sp1
    · rintro H1 sp'
      rw [List.length_map, hfl] at sp'
      exact q D H1 sp'.ext hD sp'.c0
abbrev N_Board_init : List Str := ["self", "setup", "name", "_"]
theorem sc_Board_init : FnScope N_Board_init ["self", "setup"] (C8.fnScope s_Board_init) := C8.fnScope_by (by decide +kernel)
theorem ok_Board_init {fd : FuncData} (T : Txt K mg) (F : FunD K "__init__" "Board.__init__" (C8.fnArgs s_Board_init) (C8.fnBody s_Board_init) (C8.fnScope s_Board_init) [] [] (He.ma K (aC "Board" K) "__init__") fd) (c_order : FnP P w K mg base 1 (prA "Setup" "order" K) (sp_Setup_order K)) :
    C8.Mak P w K mg base 3 "Board" (aC "Board" K) (sp_Board_init K) [] := by
  refine C8.mak0 (ds := []) T.mk_Board T.g_Board (fun_c8 F) (F.bindsN fun _ _ _ _ _ _ us hl => match us, hl with | [_, _], _ => rfl) .nil sc_Board_init (fun vs H Q E h => ?_) (fun cdv A outer s H vs Q E hr h => ?_)
  · obtain ⟨_, _, _, _, _, _, rfl, _⟩ := h
    rfl
  · have nd := sc_Board_init.nd
    have hu := hu_of hr
    obtain ⟨x, dx, su, S, K0, M, rfl, sp, hS, ok, q⟩ := h
    obtain ⟨p, hpo⟩ := T.p_Setup_order
    refine ⟨_, (pss_cons (ps_fld (pv 0) (pv 1) rfl)
      (pss_cons (ps_fld (pv 0) (pe_dc (own := [("name", 2)]) rfl nd (pi_tup (C_prop hpo T.cl_Setup c_order hr (by decide) (pv 1))) (blkOk_by (own := [("name", 2)]) (N := N_Board_init) (sc := (C8.fnScope s_Board_init)) (by decide +kernel)) (fun _ _ _ _ _ => (pg_name (i := 2) nd rfl (Or.inl rfl))) (fun _ _ _ _ _ => pts_nil) (fun _ _ _ _ _ => (pv 2)) (fun _ _ _ _ _ => pe_bl)) rfl)
      (pss_cons (ps_fld (pv 0) (pe_dc (own := [("name", 2)]) rfl nd (pi_tup (C_prop hpo T.cl_Setup c_order hr (by decide) (pv 1))) (blkOk_by (own := [("name", 2)]) (N := N_Board_init) (sc := (C8.fnScope s_Board_init)) (by decide +kernel)) (fun _ _ _ _ _ => (pg_name (i := 2) nd rfl (Or.inl rfl))) (fun _ _ _ _ _ => pts_nil) (fun _ _ _ _ _ => (pv 2)) (fun _ _ _ _ _ => pe_bl)) rfl)
      (pss_cons (ps_fld (pv 0) (pe_dc (own := [("name", 2)]) rfl nd (pi_tup (C_prop hpo T.cl_Setup c_order hr (by decide) (pv 1))) (blkOk_by (own := [("name", 2)]) (N := N_Board_init) (sc := (C8.fnScope s_Board_init)) (by decide +kernel)) (fun _ _ _ _ _ => (pg_name (i := 2) nd rfl (Or.inl rfl))) (fun _ _ _ _ _ => pts_nil) (fun _ _ _ _ _ => (pv 2)) (fun _ _ _ _ _ => pe_bl)) rfl)
      (pss_cons (ps_fld (pv 0) (pe_lc (own := [("_", 3)]) rfl nd (pi_range1 (by rfl) T.n_range (pa_cons (pe_op op_add (ClX.pe_cval (pe_glob (v := .ref (aC "Setup" K)) rfl T.g_Setup rfl)) pe_int) pa_nil)) (blkOk_by (own := [("_", 3)]) (N := N_Board_init) (sc := (C8.fnScope s_Board_init)) (by decide +kernel)) (fun _ _ _ _ _ => (pg_name (i := 3) nd rfl (Or.inl rfl))) (fun _ _ _ _ _ => pts_nil) (fun _ _ _ _ _ => pe_bl)) rfl)
      (pss_one (ps_fld (pv 0) (pe_dc (own := [("name", 2)]) rfl nd (pi_tup (C_prop hpo T.cl_Setup c_order hr (by decide) (pv 1))) (blkOk_by (own := [("name", 2)]) (N := N_Board_init) (sc := (C8.fnScope s_Board_init)) (by decide +kernel)) (fun _ _ _ _ _ => (pg_name (i := 2) nd rfl (Or.inl rfl))) (fun _ _ _ _ _ => pts_nil) (fun _ _ _ _ _ => (pv 2)) (fun _ _ _ _ _ => pe_int)) rfl))))))), ?_⟩
    obtain ⟨dx2, _, _, _, _, _, h3, _⟩ := hS.ex
    obtain ⟨u3, c3⟩ := T.c_Setup_MAX_FLAG
    refine ⟨_, rfl, _, rfl, _, _, _, _, rfl, sp.c0, T.cl_Board, T.t_Board_setup, (by simp), ?_⟩
    have t0 := sp.put0 (o' := .ins (aC "Board" K) dx [("_setup", .ref su)])
    refine ⟨_, rfl, su, _, _, rfl, t0.ext _ _ h3, su, S, K0, rfl, hS, t0.ext, fun oa hoa => ?_⟩
    refine ⟨_, rfl, ⟨_, t_of (t0.ext _ _ hoa)⟩, fun r hD => ?_⟩
    refine dc_it (walk_tup (xs := S.order.map V.str)) (fun i H' => Sep K0 H' ((r, .dK (bd (S.order.take i) no)) :: (x, .ins (aC "Board" K) dx [("_setup", .ref su)]) :: M)) (t0.own hD) ?_ ?_ ?_
    · rintro i H' _ sp
      exact t_of (sp.ext _ _ hoa)
    · rintro i v H1 H2 hi sp ⟨rfl, e2⟩
      rw [List.getElem?_map] at e2
      obtain ⟨n, hn, rfl⟩ := Option.map_eq_some_iff.mp e2
      refine ⟨rfl, ⟨_, rfl, _, .inr n, rfl, sp.c0, ?_, ?_⟩⟩
      · exact sml (m := 12) (by have := ok.len; simp [bd]; omega) (by decide)
      · have z := sp.put0 (o' := .dK (putK (bd (S.order.take i) no) (.inr n) (.bl (no n))))
        rw [bd_snoc ok.nd hn] at z
        rw [show V.bl false = V.bl (no n) from rfl, bd_snoc ok.nd hn]
        exact z
    rintro H0 a0
    rw [List.take_of_length_le (by simp)] at a0
    refine ⟨_, rfl, _, _, _, _, rfl, a0.c1, T.cl_Board, T.t_Board_rung, (by simp), ?_⟩
    have t1 := a0.swap.put0 (o' := ((x, .ins (aC "Board" K) dx [("_setup", .ref su), ("_rung", .ref r)]) : Addr × HO).2)
    refine ⟨_, rfl, su, _, _, rfl, t1.ext _ _ h3, su, S, K0, rfl, hS, t1.ext, fun oa hoa => ?_⟩
    refine ⟨_, rfl, ⟨_, t_of (t1.ext _ _ hoa)⟩, fun d hD => ?_⟩
    refine dc_it (walk_tup (xs := S.order.map V.str)) (fun i H' => Sep K0 H' ((d, .dK (bd (S.order.take i) no)) :: (x, .ins (aC "Board" K) dx [("_setup", .ref su), ("_rung", .ref r)]) :: (r, .dK (bd S.order no)) :: M)) (t1.own hD) ?_ ?_ ?_
    · rintro i H' _ sp
      exact t_of (sp.ext _ _ hoa)
    · rintro i v H1 H2 hi sp ⟨rfl, e2⟩
      rw [List.getElem?_map] at e2
      obtain ⟨n, hn, rfl⟩ := Option.map_eq_some_iff.mp e2
      refine ⟨rfl, ⟨_, rfl, _, .inr n, rfl, sp.c0, ?_, ?_⟩⟩
      · exact sml (m := 12) (by have := ok.len; simp [bd]; omega) (by decide)
      · have z := sp.put0 (o' := .dK (putK (bd (S.order.take i) no) (.inr n) (.bl (no n))))
        rw [bd_snoc ok.nd hn] at z
        rw [show V.bl false = V.bl (no n) from rfl, bd_snoc ok.nd hn]
        exact z
    rintro H1 a1
    rw [List.take_of_length_le (by simp)] at a1
    refine ⟨_, rfl, _, _, _, _, rfl, a1.c1, T.cl_Board, T.t_Board_disabled, (by simp), ?_⟩
    have t2 := a1.swap.put0 (o' := ((x, .ins (aC "Board" K) dx [("_setup", .ref su), ("_rung", .ref r), ("_disabled", .ref d)]) : Addr × HO).2)
    refine ⟨_, rfl, su, _, _, rfl, t2.ext _ _ h3, su, S, K0, rfl, hS, t2.ext, fun oa hoa => ?_⟩
    refine ⟨_, rfl, ⟨_, t_of (t2.ext _ _ hoa)⟩, fun u hD => ?_⟩
    refine dc_it (walk_tup (xs := S.order.map V.str)) (fun i H' => Sep K0 H' ((u, .dK (bd (S.order.take i) no)) :: (x, .ins (aC "Board" K) dx [("_setup", .ref su), ("_rung", .ref r), ("_disabled", .ref d)]) :: (d, .dK (bd S.order no)) :: (r, .dK (bd S.order no)) :: M)) (t2.own hD) ?_ ?_ ?_
    · rintro i H' _ sp
      exact t_of (sp.ext _ _ hoa)
    · rintro i v H1 H2 hi sp ⟨rfl, e2⟩
      rw [List.getElem?_map] at e2
      obtain ⟨n, hn, rfl⟩ := Option.map_eq_some_iff.mp e2
      refine ⟨rfl, ⟨_, rfl, _, .inr n, rfl, sp.c0, ?_, ?_⟩⟩
      · exact sml (m := 12) (by have := ok.len; simp [bd]; omega) (by decide)
      · have z := sp.put0 (o' := .dK (putK (bd (S.order.take i) no) (.inr n) (.bl (no n))))
        rw [bd_snoc ok.nd hn] at z
        rw [show V.bl false = V.bl (no n) from rfl, bd_snoc ok.nd hn]
        exact z
    rintro H2 a2
    rw [List.take_of_length_le (by simp)] at a2
    refine ⟨_, rfl, _, _, _, _, rfl, a2.c1, T.cl_Board, T.t_Board_under_way, (by simp), ?_⟩
    have t3 := a2.swap.put0 (o' := ((x, .ins (aC "Board" K) dx [("_setup", .ref su), ("_rung", .ref r), ("_disabled", .ref d), ("_under_way", .ref u)]) : Addr × HO).2)
    refine ⟨_, _, _, _, rfl, T.r_Setup, c3, _, _, rfl, rfl, _, rfl, by decide, by decide, fun F hF => ?_⟩
    refine lc_it (walk_range (lo := 0) (n := 8)) (fun i H' => Sep K0 H' ((F, .lst (List.replicate i (.bl false))) :: (x, .ins (aC "Board" K) dx [("_setup", .ref su), ("_rung", .ref r), ("_disabled", .ref d), ("_under_way", .ref u)]) :: (u, .dK (bd S.order no)) :: (d, .dK (bd S.order no)) :: (r, .dK (bd S.order no)) :: M)) (t3.own hF) ?_ ?_ ?_
    · exact fun _ _ _ _ => trivial
    · rintro i v H3 H4 hi sp ⟨rfl, e2⟩
      refine ⟨rfl, ⟨_, sp.c0, ?_, ?_⟩⟩
      · rw [List.length_replicate]
        exact sml (m := 12) (by omega) (by decide)
      · rw [List.replicate_succ']
        exact sp.put0
    rintro H5 a5
    refine ⟨_, rfl, _, _, _, _, rfl, a5.c1, T.cl_Board, T.t_Board_flags, (by simp), ?_⟩
    have t5 := a5.swap.put0 (o' := ((x, .ins (aC "Board" K) dx [("_setup", .ref su), ("_rung", .ref r), ("_disabled", .ref d), ("_under_way", .ref u), ("_flags", .ref F)]) : Addr × HO).2)
    refine ⟨_, rfl, su, _, _, rfl, t5.ext _ _ h3, su, S, K0, rfl, hS, t5.ext, fun oa hoa => ?_⟩
    refine ⟨_, rfl, ⟨_, t_of (t5.ext _ _ hoa)⟩, fun G hD => ?_⟩
    refine dc_it (walk_tup (xs := S.order.map V.str)) (fun i H' => Sep K0 H' ((G, .dK (md (S.order.take i) no0)) :: (x, .ins (aC "Board" K) dx [("_setup", .ref su), ("_rung", .ref r), ("_disabled", .ref d), ("_under_way", .ref u), ("_flags", .ref F)]) :: (F, .lst (List.replicate 8 (.bl false))) :: (u, .dK (bd S.order no)) :: (d, .dK (bd S.order no)) :: (r, .dK (bd S.order no)) :: M)) (t5.own hD) ?_ ?_ ?_
    · rintro i H' _ sp
      exact t_of (sp.ext _ _ hoa)
    · rintro i v H1 H2 hi sp ⟨rfl, e2⟩
      rw [List.getElem?_map] at e2
      obtain ⟨n, hn, rfl⟩ := Option.map_eq_some_iff.mp e2
      refine ⟨rfl, ⟨_, rfl, _, .inr n, rfl, sp.c0, ?_, ?_⟩⟩
      · exact sml (m := 12) (by have := ok.len; simp [md]; omega) (by decide)
      · have z := sp.put0 (o' := .dK (putK (md (S.order.take i) no0) (.inr n) (.int (no0 n))))
        rw [md_snoc ok.nd hn] at z
        rw [show V.int 0 = V.int (no0 n) from rfl, md_snoc ok.nd hn]
        exact z
    rintro H6 a6
    rw [List.take_of_length_le (by simp)] at a6
    refine ⟨_, rfl, _, _, _, _, rfl, a6.c1, T.cl_Board, T.t_Board_merges, (by simp), ?_⟩
    have t6 := a6.swap.put0 (o' := ((x, .ins (aC "Board" K) dx [("_setup", .ref su), ("_rung", .ref r), ("_disabled", .ref d), ("_under_way", .ref u), ("_flags", .ref F), ("_merges", .ref G)]) : Addr × HO).2)
    have u1 := t6.freeze
    have n1 := t6.new0
    have x1 : upd K0 x ((x, .ins (aC "Board" K) dx [("_setup", .ref su), ("_rung", .ref r), ("_disabled", .ref d), ("_under_way", .ref u), ("_flags", .ref F), ("_merges", .ref G)]) : Addr × HO).2 x = some ((x, .ins (aC "Board" K) dx [("_setup", .ref su), ("_rung", .ref r), ("_disabled", .ref d), ("_under_way", .ref u), ("_flags", .ref F), ("_merges", .ref G)]) : Addr × HO).2 := upd_same
    have u2 := u1.perm ((List.reverse_perm [(G, HO.dK (md S.order no0)), (F, HO.lst (List.replicate 8 (.bl false))), (u, HO.dK (bd S.order no)), (d, HO.dK (bd S.order no)), (r, HO.dK (bd S.order no))]).append_right M)
    refine q _ _ ⟨su, x, dx, r, d, u, F, G⟩ n1 rfl rfl ⟨⟨x1, SetupAt.up n1 hS, ok⟩, by simp [bd0], ?_⟩
    unfold layB bd0
    rw [List.map_replicate]
    exact u2
end
end Cb

namespace Cb
open PySem PySem.Spec PyProof.Rows L2

theorem wm_inj : ∀ {ws : List WorkD}, (ws.map (·.name)).Nodup → ∀ {a b : WorkD}, a ∈ ws → b ∈ ws → a.name = b.name → a = b
  | m :: ws, nd, a, b, ha, hb, e => by
    have n2 := List.nodup_cons.mp nd
    rcases List.mem_cons.mp ha with ea | ha
    · rcases List.mem_cons.mp hb with eb | hb
      · rw [ea, eb]
      · exact absurd (show m.name ∈ ws.map (·.name) by rw [← ea, e]; exact List.mem_map_of_mem hb) n2.1
    · rcases List.mem_cons.mp hb with eb | hb
      · exact absurd (show m.name ∈ ws.map (·.name) by rw [← eb, ← e]; exact List.mem_map_of_mem ha) n2.1
      · exact wm_inj n2.2 ha hb e
theorem work_find {ws : List WorkD} (nd : (ws.map (·.name)).Nodup) {l : WorkD} (h : l ∈ ws) : ws.find? (fun w => decide (w.name = l.name)) = some l := by
  cases e : ws.find? fun x => decide (x.name = l.name) with
  | none =>
    have := List.find?_eq_none.mp e l h
    simp at this
  | some x =>
    have h1 := List.mem_of_find?_eq_some e
    have h2 : x.name = l.name := of_decide_eq_true (List.find?_some (p := fun x : WorkD => decide (x.name = l.name)) e)
    rw [wm_inj nd h1 h h2]
theorem rankOf_eq {ws : List WorkD} (nd : (ws.map (·.name)).Nodup) {l : WorkD} (h : l ∈ ws) : rankOf ws l.name = l.rank := by
  unfold rankOf
  rw [work_find nd h]
  rfl
theorem lenOf_eq {ws : List WorkD} (nd : (ws.map (·.name)).Nodup) {l : WorkD} (h : l ∈ ws) : lenOf ws l.name = l.ticks := by
  unfold lenOf
  rw [work_find nd h]
  rfl
structure JobsAt (K : PySem.W.Frag) (H : Hp) (jo : Addr) (ws : List WorkD) (ro : Addr) : Prop where
  ex : ∃ dx rk ln, H jo = some (.ins (aC "WorkQueue" K) dx [("_ranks", .ref rk), ("_lengths", .ref ln), ("_rows", .ref ro)]) ∧ H rk = some (.dK (wd ws (·.rank))) ∧ H ln = some (.dK (wd ws (·.ticks)))
  ok : WsOk ws
theorem JobsAt.up {K : PySem.W.Frag} {H H' : Hp} {jo ro : Addr} {ws : List WorkD} (e : Same H H') (h : JobsAt K H jo ws ro) : JobsAt K H' jo ws ro := by
  obtain ⟨dx, rk, ln, h1, h2, h3⟩ := h.ex
  exact ⟨⟨dx, rk, ln, e _ _ h1, e _ _ h2, e _ _ h3⟩, h.ok⟩
def RowsIn (ws : List WorkD) (rows : List (Str × Int)) : Prop := ∀ r ∈ rows, ∃ w ∈ ws, w.name = r.1
theorem RowsOk.in {ws : List WorkD} {rows : List (Str × Int)} (h : RowsOk ws rows) : RowsIn ws rows := fun r m => by
  obtain ⟨w, hw, e, _⟩ := h r m
  exact ⟨w, hw, e⟩
def sp_WorkQueue_init (K : PySem.W.Frag) : Sp := fun vs H Q _ => ∃ (x dx wa : Addr) (ws : List WorkD) (K0 : Hp) (M : List (Addr × HO)), vs = [.ref x, .ref wa] ∧ Sep K0 H ((x, .ins (aC "WorkQueue" K) dx []) :: M) ∧ WorksAt K K0 wa ws ∧ WsOk ws ∧
  ∀ K1 H' ro, Same K0 K1 → JobsAt K K1 x ws ro → Sep K1 H' ((ro, .lst []) :: M) → Q .non H'
def sp_WorkQueue_rows (K : PySem.W.Frag) : Sp := fun vs H Q _ => ∃ (jo ro : Addr) (ws : List WorkD) (rv : List V), vs = [.ref jo] ∧ JobsAt K H jo ws ro ∧ H ro = some (.lst rv) ∧ rv.length ≤ 4000 ∧
  ∀ p H', Same H H' → H p = none → H' p = some (.lst rv) → Q (.ref p) H'
def sp_WorkQueue_is_empty (K : PySem.W.Frag) : Sp := fun vs H Q _ => ∃ (jo ro : Addr) (ws : List WorkD) (rv : List V), vs = [.ref jo] ∧ JobsAt K H jo ws ro ∧ H ro = some (.lst rv) ∧ Q (.bl rv.isEmpty) H
def sp_WorkQueue_put (K : PySem.W.Frag) : Sp := fun vs H Q _ => ∃ (jo ro : Addr) (ws : List WorkD) (rv : List V) (rows : List (Str × Int)) (l : WorkD) (x : Int) (K0 : Hp) (M : List (Addr × HO)), vs = [.ref jo, .str l.name, .int x] ∧ JobsAt K K0 jo ws ro ∧ RowsIn ws rows ∧ l ∈ ws ∧ Paired (RowAt K K0) rv rows ∧ rows.length ≤ 4000 ∧ Sep K0 H ((ro, .lst rv) :: M) ∧
  ∀ K1 H' rv', Same K0 K1 → Paired (RowAt K K1) rv' (putR ws rows l.name x) → Sep K1 H' ((ro, .lst rv') :: M) → Q .non H'
def sp_WorkQueue_spend (K : PySem.W.Frag) : Sp := fun vs H Q _ => ∃ (jo ro : Addr) (ws : List WorkD) (rv : List V) (n : Str) (t : Int) (rows : List (Str × Int)) (K0 : Hp) (M : List (Addr × HO)), vs = [.ref jo] ∧ JobsAt K K0 jo ws ro ∧ RowsIn ws ((n, t) :: rows) ∧ Paired (RowAt K K0) rv ((n, t) :: rows) ∧ rows.length ≤ 4000 ∧ Sep K0 H ((ro, .lst rv) :: M) ∧
  (t + 1 < lenOf ws n → ∀ K1 H' rv', Same K0 K1 → Paired (RowAt K K1) rv' ((n, t + 1) :: rows) → Sep K1 H' ((ro, .lst rv') :: M) → Q .non H') ∧
  (¬ t + 1 < lenOf ws n → ∀ H' rv', Paired (RowAt K K0) rv' rows → Sep K0 H' ((ro, .lst rv') :: M) → Q (.str n) H')

section
variable {P : Program} {w : World} {K : PySem.W.Frag} {mg : Str → Option Value} {base : Heap}

abbrev N_WorkQueue_rows : List Str := ["self"]
theorem sc_WorkQueue_rows : FnScope N_WorkQueue_rows ["self"] (C8.fnScope s_WorkQueue_rows) := C8.fnScope_by (by decide +kernel)
theorem ok_WorkQueue_rows {fd : FuncData} (T : Txt K mg) (F : FunD K "rows" "WorkQueue.rows" (C8.fnArgs s_WorkQueue_rows) (C8.fnBody s_WorkQueue_rows) (C8.fnScope s_WorkQueue_rows) [] [] (He.ma K (aC "WorkQueue" K) "rows") fd) :
    C8.Met P w K mg base 1 (aC "WorkQueue" K) "rows" (sp_WorkQueue_rows K) [] := by
  refine C8.met0 T.cl_WorkQueue T.m_WorkQueue_rows (fun_c8 F) (F.bindsN fun _ _ _ _ _ _ us hl => match us, hl with | [_], _ => rfl) sc_WorkQueue_rows (fun vs H Q E h => ?_) (fun cdv A outer s H vs Q E hr h => ?_)
  · obtain ⟨_, _, _, _, rfl, _⟩ := h
    rfl
  · have nd := sc_WorkQueue_rows.nd
    have hu := hu_of hr
    obtain ⟨jo, ro, ws, rv, rfl, J, hr2, hl, q⟩ := h
    refine ⟨_, (pss_one (ps_ret (pe_callTy call_list_of (by rfl) T.n_list (by decide +kernel) (pa_cons (pe_fld (pv 0) rfl) pa_nil)))), ?_⟩
    obtain ⟨dx, rk, ln, h1, h2, h3⟩ := J.ex
    exact ⟨_, rfl, _, _, _, _, _, rfl, h1, T.cl_WorkQueue, T.t_WorkQueue_rows, rfl, _, _, rfl, .inl (l_of hr2), fun p hp => q p _ (same_new (Same.refl H) hp) hp upd_same⟩
abbrev N_WorkQueue_is_empty : List Str := ["self"]
theorem sc_WorkQueue_is_empty : FnScope N_WorkQueue_is_empty ["self"] (C8.fnScope s_WorkQueue_is_empty) := C8.fnScope_by (by decide +kernel)
theorem ok_WorkQueue_is_empty {fd : FuncData} (T : Txt K mg) (F : FunD K "is_empty" "WorkQueue.is_empty" (C8.fnArgs s_WorkQueue_is_empty) (C8.fnBody s_WorkQueue_is_empty) (C8.fnScope s_WorkQueue_is_empty) [] [] (He.ma K (aC "WorkQueue" K) "is_empty") fd) :
    C8.Met P w K mg base 1 (aC "WorkQueue" K) "is_empty" (sp_WorkQueue_is_empty K) [] := by
  refine C8.met0 T.cl_WorkQueue T.m_WorkQueue_is_empty (fun_c8 F) (F.bindsN fun _ _ _ _ _ _ us hl => match us, hl with | [_], _ => rfl) sc_WorkQueue_is_empty (fun vs H Q E h => ?_) (fun cdv A outer s H vs Q E hr h => ?_)
  · obtain ⟨_, _, _, _, rfl, _⟩ := h
    rfl
  · have nd := sc_WorkQueue_is_empty.nd
    have hu := hu_of hr
    obtain ⟨jo, ro, ws, rv, rfl, J, hr2, q⟩ := h
    refine ⟨_, (pss_one (ps_ret (pe_notT (pe_fld (pv 0) rfl)))), ?_⟩
    obtain ⟨dx, rk, ln, h1, h2, h3⟩ := J.ex
    exact ⟨_, rfl, _, _, _, _, _, rfl, h1, T.cl_WorkQueue, T.t_WorkQueue_rows, rfl, !rv.isEmpty, .inl ⟨_, l_of hr2, rfl⟩, by rw [Bool.not_not]; exact q⟩
abbrev N_WorkQueue_init : List Str := ["self", "works", "work"]
theorem sc_WorkQueue_init : FnScope N_WorkQueue_init ["self", "works"] (C8.fnScope s_WorkQueue_init) := C8.fnScope_by (by decide +kernel)
theorem ok_WorkQueue_init {fd : FuncData} (T : Txt K mg) (F : FunD K "__init__" "WorkQueue.__init__" (C8.fnArgs s_WorkQueue_init) (C8.fnBody s_WorkQueue_init) (C8.fnScope s_WorkQueue_init) [] [] (He.ma K (aC "WorkQueue" K) "__init__") fd) :
    C8.Mak P w K mg base 1 "WorkQueue" (aC "WorkQueue" K) (sp_WorkQueue_init K) [] := by
  refine C8.mak0 (ds := []) T.mk_WorkQueue T.g_WorkQueue (fun_c8 F) (F.bindsN fun _ _ _ _ _ _ us hl => match us, hl with | [_, _], _ => rfl) .nil sc_WorkQueue_init (fun vs H Q E h => ?_) (fun cdv A outer s H vs Q E hr h => ?_)
  · obtain ⟨_, _, _, _, _, _, rfl, _⟩ := h
    rfl
  · have nd := sc_WorkQueue_init.nd
    have hu := hu_of hr
    obtain ⟨x, dx, wa, ws, K0, M, rfl, sp, hW, ok, q⟩ := h
    obtain ⟨xs, hs, hp⟩ := hW.ex
    have hlen := hp.length
    refine ⟨_, (pss_cons (ps_fld (pv 0) (pe_dc (own := [("work", 2)]) rfl nd (pi_tup (pv 1)) (blkOk_by (own := [("work", 2)]) (N := N_WorkQueue_init) (sc := (C8.fnScope s_WorkQueue_init)) (by decide +kernel)) (fun _ _ _ _ _ => (pg_name (i := 2) nd rfl (Or.inl rfl))) (fun _ _ _ _ _ => pts_nil) (fun _ _ _ _ _ => (pe_ix (ix_tup : IxR _ (rIxT K)) (pv 2) pe_int (fun _ _ => rfl))) (fun _ _ _ _ _ => (pe_ix (ix_tup : IxR _ (rIxT K)) (pv 2) pe_int (fun _ _ => rfl)))) rfl)
      (pss_cons (ps_fld (pv 0) (pe_dc (own := [("work", 2)]) rfl nd (pi_tup (pv 1)) (blkOk_by (own := [("work", 2)]) (N := N_WorkQueue_init) (sc := (C8.fnScope s_WorkQueue_init)) (by decide +kernel)) (fun _ _ _ _ _ => (pg_name (i := 2) nd rfl (Or.inl rfl))) (fun _ _ _ _ _ => pts_nil) (fun _ _ _ _ _ => (pe_ix (ix_tup : IxR _ (rIxT K)) (pv 2) pe_int (fun _ _ => rfl))) (fun _ _ _ _ _ => (pe_ix (ix_tup : IxR _ (rIxT K)) (pv 2) pe_int (fun _ _ => rfl)))) rfl)
      (pss_one (ps_fld (pv 0) (pe_lst pa_nil) rfl)))), ?_⟩
    refine ⟨_, rfl, _, rfl, ⟨_, Same.tup sp.ext hs⟩, fun rk hD => ?_⟩
    refine dc_it (walk_tup (xs := xs)) (fun i H' => Sep K0 H' ((rk, .dK (wd (ws.take i) (·.rank))) :: (x, .ins (aC "WorkQueue" K) dx []) :: M)) (sp.own hD) ?_ ?_ ?_
    · rintro i H' _ sp
      exact Same.tup sp.ext hs
    · rintro i v H1 H2 hi sp ⟨rfl, e2⟩
      obtain ⟨l, hl, hL⟩ := pget hp e2
      obtain ⟨c, rfl, hb⟩ := WorkAt.up sp.ext hL
      refine ⟨rfl, ⟨_, rfl, _, _, _, _, rfl, rfl, hb, rfl, _, rfl, _, _, _, _, rfl, rfl, hb, rfl, _, .inr l.name, rfl, sp.c0, ?_, ?_⟩⟩
      · exact sml (m := 12) (by have := ok.le; simp [wd]; omega) (by decide)
      · have z := sp.put0 (o' := .dK (putK (wd (ws.take i) (·.rank)) (.inr l.name) (.int l.rank)))
        rw [wd_snoc (f := (·.rank)) ok.nd hl] at z ⊢
        exact z
    rintro H0 a0
    rw [List.take_of_length_le (by omega)] at a0
    refine ⟨_, rfl, _, _, _, _, rfl, a0.c1, T.cl_WorkQueue, T.t_WorkQueue_ranks, (by simp), ?_⟩
    have t1 := a0.swap.put0 (o' := ((x, .ins (aC "WorkQueue" K) dx [("_ranks", .ref rk)]) : Addr × HO).2)
    refine ⟨_, rfl, _, rfl, ⟨_, Same.tup t1.ext hs⟩, fun ln hD => ?_⟩
    refine dc_it (walk_tup (xs := xs)) (fun i H' => Sep K0 H' ((ln, .dK (wd (ws.take i) (·.ticks))) :: (x, .ins (aC "WorkQueue" K) dx [("_ranks", .ref rk)]) :: (rk, .dK (wd ws (·.rank))) :: M)) (t1.own hD) ?_ ?_ ?_
    · rintro i H' _ sp
      exact Same.tup sp.ext hs
    · rintro i v H1 H2 hi sp ⟨rfl, e2⟩
      obtain ⟨l, hl, hL⟩ := pget hp e2
      obtain ⟨c, rfl, hb⟩ := WorkAt.up sp.ext hL
      refine ⟨rfl, ⟨_, rfl, _, _, _, _, rfl, rfl, hb, rfl, _, rfl, _, _, _, _, rfl, rfl, hb, rfl, _, .inr l.name, rfl, sp.c0, ?_, ?_⟩⟩
      · exact sml (m := 12) (by have := ok.le; simp [wd]; omega) (by decide)
      · have z := sp.put0 (o' := .dK (putK (wd (ws.take i) (·.ticks)) (.inr l.name) (.int l.ticks)))
        rw [wd_snoc (f := (·.ticks)) ok.nd hl] at z ⊢
        exact z
    rintro H1 a1
    rw [List.take_of_length_le (by omega)] at a1
    refine ⟨_, rfl, _, _, _, _, rfl, a1.c1, T.cl_WorkQueue, T.t_WorkQueue_lengths, (by simp), ?_⟩
    have t2 := a1.swap.put0 (o' := ((x, .ins (aC "WorkQueue" K) dx [("_ranks", .ref rk), ("_lengths", .ref ln)]) : Addr × HO).2)
    refine ⟨by simp, fun ro hro => ?_⟩
    have t3 := t2.own (o := .lst []) hro
    refine ⟨_, rfl, _, _, _, _, rfl, t3.c1, T.cl_WorkQueue, T.t_WorkQueue_rows, (by simp), ?_⟩
    have t4 := t3.swap.put0 (o' := ((x, .ins (aC "WorkQueue" K) dx [("_ranks", .ref rk), ("_lengths", .ref ln), ("_rows", .ref ro)]) : Addr × HO).2)
    have u1 := t4.freeze
    have n1 := t4.new0
    have x1 : upd K0 x ((x, .ins (aC "WorkQueue" K) dx [("_ranks", .ref rk), ("_lengths", .ref ln), ("_rows", .ref ro)]) : Addr × HO).2 x = some ((x, .ins (aC "WorkQueue" K) dx [("_ranks", .ref rk), ("_lengths", .ref ln), ("_rows", .ref ro)]) : Addr × HO).2 := upd_same
    have u2 := u1.swap.freeze
    have n2 := u1.swap.new0
    have u3 := u2.swap.freeze
    have n3 := u2.swap.new0
    have g := Same.tr n1 (Same.tr n2 n3)
    exact q _ _ ro g ⟨⟨dx, rk, ln, Same.tr n2 n3 _ _ x1, upd_same, n3 _ _ upd_same⟩, ok⟩ u3
abbrev N_WorkQueue_put : List Str := ["self", "work", "ticks", "rank", "ahead", "name", "_"]
theorem sc_WorkQueue_put : FnScope N_WorkQueue_put ["self", "work", "ticks"] (C8.fnScope s_WorkQueue_put) := C8.fnScope_by (by decide +kernel)
theorem bind_WorkQueue_put {K : PySem.W.Frag} {f : Addr} {fd : FuncData} {dv : V} (F : FunD K "put" "WorkQueue.put" (C8.fnArgs s_WorkQueue_put) (C8.fnBody s_WorkQueue_put) (C8.fnScope s_WorkQueue_put) [dv] [] f fd) : L2.Binds K fd ["self", "work", "ticks"] [] := by
  obtain ⟨ds, hv, hb⟩ := F.binds1 (ps := ["self", "work", "ticks"]) 3 1 (by simp) rfl (fun T kV doc pm an cdv ct us its h1 h2 => match us, its, h1, h2 with | [_, _, _], [_], _, _ => ⟨_, rfl, rfl⟩)
  cases hv
  exact hb
theorem fnok_WorkQueue_put {fd : FuncData} (T : Txt K mg) (F : FunD K "put" "WorkQueue.put" (C8.fnArgs s_WorkQueue_put) (C8.fnBody s_WorkQueue_put) (C8.fnScope s_WorkQueue_put) [.int 0] [] (He.ma K (aC "WorkQueue" K) "put") fd) :
    FnOk P w K mg base C8.CX0 1 (He.ma K (aC "WorkQueue" K) "put") fd ["self", "work", "ticks"] (sp_WorkQueue_put K) := by
  refine C8.fn0 (fun_c8 F) sc_WorkQueue_put (fun vs H Q E h => ?_) (fun cdv A outer s H vs Q E hr h => ?_)
  · obtain ⟨_, _, _, _, _, _, _, _, _, rfl, _⟩ := h
    rfl
  · have nd := sc_WorkQueue_put.nd
    have hu := hu_of hr
    obtain ⟨jo, ro, ws, rv, rows, l, x, K0, M, rfl, J, rin, hl, hp, hlen, sp, q⟩ := h
    refine ⟨_, (pss_cons (ps_if (PW.pt (pw_and (pt_cmpR op_eq (pv 2) pe_int (nomark _)) (pw_and1 (pt_cmpR (op_inD (hu65_of hr)) (pe_tup (pa_cons (pv 1) (pa_cons pe_int pa_nil))) (pe_fld (pv 0) rfl) (by rfl))))) (pss_one ps_retN) pss_nil)
      (pss_cons (ps_set (i := 3) nd rfl (Or.inr rfl) (pe_dget hu (pe_fld (pv 0) rfl) (pv 1) (fun _ _ => rfl)))
      (pss_cons (ps_setLc (i := 4) (own := [("name", 5), ("_", 6)]) rfl nd rfl rfl (sw_true rfl rfl rfl (by decide +kernel)) (pi_list (pe_fld (pv 0) rfl)) (blkOk_by (own := [("name", 5), ("_", 6)]) (N := N_WorkQueue_put) (sc := (C8.fnScope s_WorkQueue_put)) (by decide +kernel)) (fun _ _ _ _ _ => (pg_tup (n := 2) rfl (pgs_cons (pg_name (i := 5) nd rfl (Or.inl rfl)) (pgs_cons (pg_name (i := 6) nd rfl (Or.inl rfl)) pgs_nil)) : PG _ _ (gTup K 2 _))) (fun _ _ _ _ _ => (pts_one (pt_cmpR op_ge (pe_dget hu (pe_fld (pv 0) rfl : PE _ _ (tFld K _ _)) (pv 5) (fun _ _ => rfl)) (pv 3) (nomark _)))) (fun _ _ _ _ _ => (pv 5)))
      (pss_one (ps_expr (pe_bm PySem.F.plainAttrs_list PySem.F.slot_list_insert PySem.F.type_list_insert mt_insert (pe_fld (pv 0) rfl) (pa_cons (pe_callB call_len_seq (by rfl) T.n_len (by decide +kernel) (pa_cons (pv 4) pa_nil)) (pa_cons (pe_tup (pa_cons (pv 1) (pa_cons (pv 2) pa_nil))) pa_nil)))))))), ?_⟩
    have hlen2 := hp.length
    have nmo : nameOk l.name := (J.ok.ok l hl).nm
    have rno : ∀ r ∈ rows, nameOk r.1 := fun r m => by
      obtain ⟨w, hw, e⟩ := rin r m
      exact e ▸ (J.ok.ok w hw).nm
    have J1 := JobsAt.up sp.ext J
    obtain ⟨dx, rk, ln, h1, h2, h3⟩ := J1.ex
    have rin0 := fun (r : Str × Int) (m : r ∈ rows) => rin r m
    by_cases hx : x = 0
    · subst hx
      refine ⟨_, rfl, rfl, true, rfl, iteT ?_⟩
      refine ⟨_, rfl, small8 (by simp), fun t ht => ?_⟩
      have sp1 := sp.drop (o := .tup [.str l.name, .int 0]) ht
      obtain ⟨dx, rk, ln, h1, h2, h3⟩ := (JobsAt.up sp1.ext J).ex
      refine ⟨_, rfl, _, _, _, _, _, rfl, h1, T.cl_WorkQueue, T.t_WorkQueue_rows, rfl, pd (l.name, 0), rows.map pd, .tup (t_of upd_same) (.cons (.str _) (.cons (.int _) .nil)), .lst (l_of sp1.c0) (rows_dp (hp.mono fun _ _ z => RowAt.up sp1.ext z)), pd_sh1 nmo, pd_sh rno, decide ((l.name, 0) ∈ rows), congrArg V.bl (any_pd rows _), ?_⟩
      by_cases hm : (l.name, 0) ∈ rows
      · rw [decide_eq_true hm]
        refine iteT (q K0 _ rv (Same.refl _) ?_ sp1)
        unfold putR
        rw [if_pos ⟨rfl, hm⟩]
        exact hp
      rw [decide_eq_false hm]
      refine iteF ?_
      have hno : ¬ ((0 : Int) = 0 ∧ (l.name, 0) ∈ rows) := fun z => hm z.2
      refine ⟨_, rfl, _, _, _, _, _, rfl, h1, T.cl_WorkQueue, T.t_WorkQueue_ranks, rfl, _, rfl, rk, .int l.rank, rfl, wd_at (f := (·.rank)) J.ok.nd hl ▸ DGet.k (k := .inr l.name) h2, ?_⟩
      refine ⟨_, rfl, _, _, _, _, _, rfl, h1, T.cl_WorkQueue, T.t_WorkQueue_rows, rfl, _, rfl, ⟨_, l_of sp1.c0⟩, fun D hD => ?_⟩
      refine lc_it (walk_list (xs := rv)) (fun i H' => ∃ acc, acc.length = ((rows.take i).filter fun r => decide (rankOf ws l.name ≤ rankOf ws r.1)).length ∧ Sep K0 H' ((D, .lst acc) :: (ro, .lst rv) :: M)) ⟨[], rfl, sp1.own hD⟩ ?_ ?_ ?_
      · rintro i H' _ ⟨_, _, sp⟩
        exact l_of sp.c1
      · rintro i v H1 H2 hi ⟨acc, ha, sp⟩ ⟨rfl, e2⟩
        obtain ⟨r, hr3, c, rfl, hc⟩ := pget hp e2
        obtain ⟨w, hw, ew⟩ := rin r (List.mem_of_getElem? hr3)
        obtain ⟨dx', rk', ln', g1, g2, g3⟩ := (JobsAt.up sp.ext J).ex
        refine ⟨_, _, rfl, Same.tup sp.ext hc, rfl, _, _, rfl, _, _, rfl, rfl, rfl, ?_⟩
        refine ⟨_, rfl, _, _, _, _, _, rfl, g1, T.cl_WorkQueue, T.t_WorkQueue_ranks, rfl, _, rfl, rk', .int w.rank, rfl, ?_, _, rfl, _, _, rfl, rfl, decide (l.rank ≤ w.rank), rfl, ?_⟩
        · rw [← ew]
          exact wd_at (f := (·.rank)) J.ok.nd hw ▸ DGet.k (k := .inr w.name) g2
        · have el := List.length_filter_le (fun r : Str × Int => decide (rankOf ws l.name ≤ rankOf ws r.1)) (rows.take i)
          rw [List.length_take] at el
          rw [filter_snoc (fun r : Str × Int => decide (rankOf ws l.name ≤ rankOf ws r.1)) hr3]
          have er : decide (rankOf ws l.name ≤ rankOf ws r.1) = decide (l.rank ≤ w.rank) := by rw [rankOf_eq J.ok.nd hl, ← ew, rankOf_eq J.ok.nd hw]
          rw [er]
          cases decide (l.rank ≤ w.rank) with
          | true => exact iteT ⟨_, rfl, _, sp.c0, sml (m := 4000) (by omega) (by decide), _, by rw [if_pos rfl, List.length_append, List.length_append, ha]; rfl, sp.put0⟩
          | false => exact iteF ⟨_, by rw [if_neg (by simp), List.append_nil]; exact ha, sp⟩
      rintro H3 ⟨acc, ha, sp3⟩
      rw [List.take_of_length_le (Nat.le_of_eq hlen2.symm)] at ha
      have hal := List.length_filter_le (fun r : Str × Int => decide (rankOf ws l.name ≤ rankOf ws r.1)) rows
      obtain ⟨dx', rk', ln', g1, g2, g3⟩ := (JobsAt.up sp3.ext J).ex
      refine ⟨_, rfl, _, _, _, _, _, rfl, g1, T.cl_WorkQueue, T.t_WorkQueue_rows, rfl, .inl ⟨rfl, _, .inl (.inl sp3.c1)⟩, _, rfl, _, _, rfl, .inl (l_of sp3.c0), _, rfl, _, rfl, small8 (by simp), fun t2 ht2 => ?_⟩
      have sp4 := sp3.tail.keep (o := .tup [.str l.name, .int 0]) ht2
      have g := sp3.newk (o := .tup [.str l.name, .int 0]) ht2
      refine ⟨_, _, _, _, rfl, rfl, sp4.c0, sml (m := 4000) (by omega) (by decide), by omega, big63 (by omega), ?_⟩
      refine q _ _ _ g ?_ sp4.put0
      unfold putR
      rw [if_neg hno, Int.toNat_natCast, ha]
      have hp2 := hp.mono fun _ _ z => RowAt.up g z
      exact papp (pdrop hp2 _) (papp (.cons ⟨t2, rfl, t_of upd_same⟩ .nil) (ptake hp2 _))
    · refine ⟨_, rfl, rfl, false, congrArg V.bl (decide_eq_false fun z => hx (V.int.inj z)), iteF ?_⟩
      refine iteF ?_
      have sp1 := sp
      have hno : ¬ (x = 0 ∧ (l.name, 0) ∈ rows) := fun z => hx z.1
      refine ⟨_, rfl, _, _, _, _, _, rfl, h1, T.cl_WorkQueue, T.t_WorkQueue_ranks, rfl, _, rfl, rk, .int l.rank, rfl, wd_at (f := (·.rank)) J.ok.nd hl ▸ DGet.k (k := .inr l.name) h2, ?_⟩
      refine ⟨_, rfl, _, _, _, _, _, rfl, h1, T.cl_WorkQueue, T.t_WorkQueue_rows, rfl, _, rfl, ⟨_, l_of sp1.c0⟩, fun D hD => ?_⟩
      refine lc_it (walk_list (xs := rv)) (fun i H' => ∃ acc, acc.length = ((rows.take i).filter fun r => decide (rankOf ws l.name ≤ rankOf ws r.1)).length ∧ Sep K0 H' ((D, .lst acc) :: (ro, .lst rv) :: M)) ⟨[], rfl, sp1.own hD⟩ ?_ ?_ ?_
      · rintro i H' _ ⟨_, _, sp⟩
        exact l_of sp.c1
      · rintro i v H1 H2 hi ⟨acc, ha, sp⟩ ⟨rfl, e2⟩
        obtain ⟨r, hr3, c, rfl, hc⟩ := pget hp e2
        obtain ⟨w, hw, ew⟩ := rin r (List.mem_of_getElem? hr3)
        obtain ⟨dx', rk', ln', g1, g2, g3⟩ := (JobsAt.up sp.ext J).ex
        refine ⟨_, _, rfl, Same.tup sp.ext hc, rfl, _, _, rfl, _, _, rfl, rfl, rfl, ?_⟩
        refine ⟨_, rfl, _, _, _, _, _, rfl, g1, T.cl_WorkQueue, T.t_WorkQueue_ranks, rfl, _, rfl, rk', .int w.rank, rfl, ?_, _, rfl, _, _, rfl, rfl, decide (l.rank ≤ w.rank), rfl, ?_⟩
        · rw [← ew]
          exact wd_at (f := (·.rank)) J.ok.nd hw ▸ DGet.k (k := .inr w.name) g2
        · have el := List.length_filter_le (fun r : Str × Int => decide (rankOf ws l.name ≤ rankOf ws r.1)) (rows.take i)
          rw [List.length_take] at el
          rw [filter_snoc (fun r : Str × Int => decide (rankOf ws l.name ≤ rankOf ws r.1)) hr3]
          have er : decide (rankOf ws l.name ≤ rankOf ws r.1) = decide (l.rank ≤ w.rank) := by rw [rankOf_eq J.ok.nd hl, ← ew, rankOf_eq J.ok.nd hw]
          rw [er]
          cases decide (l.rank ≤ w.rank) with
          | true => exact iteT ⟨_, rfl, _, sp.c0, sml (m := 4000) (by omega) (by decide), _, by rw [if_pos rfl, List.length_append, List.length_append, ha]; rfl, sp.put0⟩
          | false => exact iteF ⟨_, by rw [if_neg (by simp), List.append_nil]; exact ha, sp⟩
      rintro H3 ⟨acc, ha, sp3⟩
      rw [List.take_of_length_le (Nat.le_of_eq hlen2.symm)] at ha
      have hal := List.length_filter_le (fun r : Str × Int => decide (rankOf ws l.name ≤ rankOf ws r.1)) rows
      obtain ⟨dx', rk', ln', g1, g2, g3⟩ := (JobsAt.up sp3.ext J).ex
      refine ⟨_, rfl, _, _, _, _, _, rfl, g1, T.cl_WorkQueue, T.t_WorkQueue_rows, rfl, .inl ⟨rfl, _, .inl (.inl sp3.c1)⟩, _, rfl, _, _, rfl, .inl (l_of sp3.c0), _, rfl, _, rfl, small8 (by simp), fun t2 ht2 => ?_⟩
      have sp4 := sp3.tail.keep (o := .tup [.str l.name, .int x]) ht2
      have g := sp3.newk (o := .tup [.str l.name, .int x]) ht2
      refine ⟨_, _, _, _, rfl, rfl, sp4.c0, sml (m := 4000) (by omega) (by decide), by omega, big63 (by omega), ?_⟩
      refine q _ _ _ g ?_ sp4.put0
      unfold putR
      rw [if_neg hno, Int.toNat_natCast, ha]
      have hp2 := hp.mono fun _ _ z => RowAt.up g z
      exact papp (pdrop hp2 _) (papp (.cons ⟨t2, rfl, t_of upd_same⟩ .nil) (ptake hp2 _))
theorem ok_WorkQueue_put {fd : FuncData} (T : Txt K mg) (F : FunD K "put" "WorkQueue.put" (C8.fnArgs s_WorkQueue_put) (C8.fnBody s_WorkQueue_put) (C8.fnScope s_WorkQueue_put) [.int 0] [] (He.ma K (aC "WorkQueue" K) "put") fd) :
    C8.Met P w K mg base 1 (aC "WorkQueue" K) "put" (sp_WorkQueue_put K) [] := by
  exact ⟨_, fd, _, [], T.cl_WorkQueue, T.m_WorkQueue_put, fnok_WorkQueue_put T  F, bind_WorkQueue_put F, .nil⟩
theorem ok_WorkQueue_put1 {fd : FuncData} (T : Txt K mg) (F : FunD K "put" "WorkQueue.put" (C8.fnArgs s_WorkQueue_put) (C8.fnBody s_WorkQueue_put) (C8.fnScope s_WorkQueue_put) [.int 0] [] (He.ma K (aC "WorkQueue" K) "put") fd) :
    C8.Met P w K mg base 1 (aC "WorkQueue" K) "put" (sp_WorkQueue_put K) [.int 0] := by
  obtain ⟨ds, hv, hb⟩ := F.binds1 (ps := ["self", "work", "ticks"]) 2 0 (by simp) rfl (fun T kV doc pm an cdv ct us its h1 h2 => match us, its, h1, h2 with | [_, _], [_], _, _ => ⟨_, rfl, rfl⟩)
  exact ⟨_, fd, _, ds, T.cl_WorkQueue, T.m_WorkQueue_put, fnok_WorkQueue_put T  F, hb, hv⟩
abbrev N_WorkQueue_spend : List Str := ["self", "work", "ticks"]
theorem sc_WorkQueue_spend : FnScope N_WorkQueue_spend ["self"] (C8.fnScope s_WorkQueue_spend) := C8.fnScope_by (by decide +kernel)
theorem ok_WorkQueue_spend {fd : FuncData} (T : Txt K mg) (F : FunD K "spend" "WorkQueue.spend" (C8.fnArgs s_WorkQueue_spend) (C8.fnBody s_WorkQueue_spend) (C8.fnScope s_WorkQueue_spend) [] [] (He.ma K (aC "WorkQueue" K) "spend") fd) :
    C8.Met P w K mg base 1 (aC "WorkQueue" K) "spend" (sp_WorkQueue_spend K) [] := by
  refine C8.met0 T.cl_WorkQueue T.m_WorkQueue_spend (fun_c8 F) (F.bindsN fun _ _ _ _ _ _ us hl => match us, hl with | [_], _ => rfl) sc_WorkQueue_spend (fun vs H Q E h => ?_) (fun cdv A outer s H vs Q E hr h => ?_)
  · obtain ⟨_, _, _, _, _, _, _, _, _, rfl, _⟩ := h
    rfl
  · have nd := sc_WorkQueue_spend.nd
    have hu := hu_of hr
    obtain ⟨jo, ro, ws, rv, n, t, rows, K0, M, rfl, J, rin, hp, hlen, sp, q1, q2⟩ := h
    refine ⟨_, (pss_cons (ps_asg (pe_ix ix_list (pe_fld (pv 0) rfl) pe_int (fun _ _ => rfl)) (pg_tup rfl (pgs_cons (pg_name (i := 1) nd rfl (Or.inl rfl)) (pgs_cons (pg_name (i := 2) nd rfl (Or.inl rfl)) pgs_nil))))
      (pss_cons (ps_if (pt_cmpR op_lt (pe_op op_add (pv 2) pe_int) (pe_dget hu (pe_fld (pv 0) rfl) (pv 1) (fun _ _ => rfl)) (nomark _)) (pss_cons (ps_asg (pe_tup (pa_cons (pv 1) (pa_cons (pe_op op_add (pv 2) pe_int) pa_nil))) (pg_sub (pe_fld (pv 0) rfl) pe_int set_list))
      (pss_one (ps_ret pe_non))) pss_nil)
      (pss_cons (ps_expr (pe_bm PySem.F.plainAttrs_list PySem.F.slot_list_pop PySem.F.type_list_pop mt_popAt (pe_fld (pv 0) rfl) (pa_cons pe_int pa_nil)))
      (pss_one (ps_ret (pv 1)))))), ?_⟩
    obtain ⟨dx, rk, ln, h1, h2, h3⟩ := (JobsAt.up sp.ext J).ex
    obtain ⟨w, hw, ew⟩ := rin (n, t) List.mem_cons_self
    have el : lenOf ws n = w.ticks := by rw [show n = w.name from ew.symm]; exact lenOf_eq J.ok.nd hw
    rw [el] at q1 q2
    cases hp with
    | @cons v _ vs _ hv hvs =>
    obtain ⟨c, rfl, hc⟩ := hv
    refine ⟨_, rfl, _, _, _, _, _, rfl, h1, T.cl_WorkQueue, T.t_WorkQueue_rows, rfl, _, _, _, _, rfl, rfl, l_of sp.c0, atIn (n := 0) rfl, ?_⟩
    refine ⟨_, _, rfl, Same.tup sp.ext hc, rfl, _, _, rfl, _, _, rfl, rfl, ?_⟩
    refine ⟨_, rfl, _, _, rfl, rfl, _, rfl, _, _, _, _, _, rfl, h1, T.cl_WorkQueue, T.t_WorkQueue_lengths, rfl, _, rfl, ln, .int w.ticks, rfl, ?_, _, _, rfl, rfl, decide (t + 1 < w.ticks), rfl, ?_⟩
    · show DGet H ln (V.str n) _
      rw [show n = w.name from ew.symm]
      exact wd_at (f := (·.ticks)) J.ok.nd hw ▸ DGet.k (k := .inr w.name) h3
    by_cases hlt : t + 1 < w.ticks
    · rw [decide_eq_true hlt]
      refine iteT ⟨_, rfl, _, rfl, _, _, rfl, rfl, small8 (by simp), fun t2 ht2 => ?_⟩
      have sp4 := sp.keep (o := .tup [.str n, .int (t + 1)]) ht2
      have g := sp.newk (o := .tup [.str n, .int (t + 1)]) ht2
      obtain ⟨dx, rk, ln, h1, h2, h3⟩ := (JobsAt.up (Same.tr g sp4.ext) J).ex
      refine ⟨_, rfl, _, _, _, _, _, rfl, h1, T.cl_WorkQueue, T.t_WorkQueue_rows, rfl, _, _, _, 0, rfl, rfl, sp4.c0, by simp [ixN], ?_⟩
      exact q1 hlt _ _ _ g (.cons ⟨t2, rfl, t_of upd_same⟩ (hvs.mono fun _ _ z => RowAt.up g z)) sp4.put0
    · rw [decide_eq_false hlt]
      refine iteF ?_
      refine ⟨_, rfl, _, _, _, _, _, rfl, h1, T.cl_WorkQueue, T.t_WorkQueue_rows, rfl, .inl ⟨rfl, _, .inl (.inl sp.c0)⟩, _, _, _, 0, _, rfl, rfl, sp.c0, by decide, by decide, by simp [seqIndex?], rfl, ?_⟩
      exact ⟨_, rfl, q2 hlt _ _ hvs sp.put0⟩
end
end Cb

namespace Cb
open PySem PySem.Spec PyProof.Rows L2

structure AdP where
  pr : Addr
  dp : Addr
  st : Addr
  jo : Addr
  ro : Addr
  co : Addr
def CallAt (K : PySem.W.Frag) (H : Hp) (v : V) (c : CallD) : Prop := ∃ t, v = .ref t ∧ SqT K H t [.str c.line.name, .int (c.step : Nat), .int c.ticks, .int c.kept]
theorem CallAt.up {K : PySem.W.Frag} {H H' : Hp} {v : V} {r : CallD} (e : Same H H') (h : CallAt K H v r) : CallAt K H' v r := h.elim fun a h => ⟨a, h.1, Same.tup e h.2⟩
def EvAt (K : PySem.W.Frag) (H : Hp) (v : V) (e : Ev) : Prop := ∃ t, v = .ref t ∧ SqT K H t [.str e.word, .str e.name]
theorem EvAt.up {K : PySem.W.Frag} {H H' : Hp} {v : V} {r : Ev} (e : Same H H') (h : EvAt K H v r) : EvAt K H' v r := h.elim fun a h => ⟨a, h.1, Same.tup e h.2⟩
def prI (K : PySem.W.Frag) (A : AdB) (P : AdP) (bar : Int) : HO := .ins (aC "Processor" K) P.dp [("_setup", .ref A.su), ("_board", .ref A.bo), ("_bar", .int bar), ("_stack", .ref P.st), ("_jobs", .ref P.jo), ("_counts", .ref P.co)]
def layP (K : PySem.W.Frag) (A : AdB) (P : AdP) (p : PrD) (sv rv : List V) (M : List (Addr × HO)) : List (Addr × HO) :=
  (P.pr, prI K A P p.bar) :: (P.st, .lst sv) :: (P.ro, .lst rv) :: (P.co, .lst [.int p.c0, .int p.c1, .int p.c2, .int p.c3]) :: M
structure Own (K : PySem.W.Frag) (A : AdB) (P : AdP) (S : SetD) (K0 H : Hp) (b : BdD) (p : PrD) (M : List (Addr × HO)) : Prop where
  fb : BoardAt K K0 A S
  fj : JobsAt K K0 P.jo S.ws P.ro
  fl : b.fl.length = 8
  ex : ∃ sv rv, Paired (CallAt K K0) sv p.stack ∧ Paired (RowAt K K0) rv p.rows ∧ Sep K0 H (layB A S b (layP K A P p sv rv M))
section
variable {K : PySem.W.Frag} {A : AdB} {P : AdP} {S : SetD} {K0 K1 H H' : Hp} {b b' : BdD} {p p' : PrD} {M M' : List (Addr × HO)}
theorem Own.grow (h : Own K A P S K0 H b p M) (g : Same H H') : Own K A P S K0 H' b p M := by
  obtain ⟨sv, rv, h1, h2, h3⟩ := h.ex
  exact ⟨h.fb, h.fj, h.fl, sv, rv, h1, h2, h3.grow g⟩
theorem Own.mk2 (h : Own K A P S K0 H b p M) (g : Same K0 K1) (fl : b'.fl.length = 8) (ex : ∃ sv rv, Paired (CallAt K K1) sv p'.stack ∧ Paired (RowAt K K1) rv p'.rows ∧ Sep K1 H' (layB A S b' (layP K A P p' sv rv M'))) : Own K A P S K1 H' b' p' M' := ⟨BoardAt.up g h.fb, JobsAt.up g h.fj, fl, ex⟩
end
section
variable {K0 H : Hp} {L : List (Addr × HO)} {a1 a2 a3 a4 a5 a6 a7 a8 a9 e : Addr × HO} {a : Addr} {x y : HO}
theorem Sep.c6 (s : Sep K0 H (a1 :: a2 :: a3 :: a4 :: a5 :: a6 :: (a, x) :: L)) : H a = some x := s.cs.2.2.2.2.2.2.1
theorem Sep.c7 (s : Sep K0 H (a1 :: a2 :: a3 :: a4 :: a5 :: a6 :: a7 :: (a, x) :: L)) : H a = some x := s.cs.2.2.2.2.2.2.2.1
theorem Sep.c8 (s : Sep K0 H (a1 :: a2 :: a3 :: a4 :: a5 :: a6 :: a7 :: a8 :: (a, x) :: L)) : H a = some x := s.cs.2.2.2.2.2.2.2.2.1
theorem Sep.put6 (s : Sep K0 H (a1 :: a2 :: a3 :: a4 :: a5 :: a6 :: (a, x) :: L)) : Sep K0 (upd H a y) (a1 :: a2 :: a3 :: a4 :: a5 :: a6 :: (a, y) :: L) := Sep.put (L1 := [a1, a2, a3, a4, a5, a6]) s
theorem Sep.put7 (s : Sep K0 H (a1 :: a2 :: a3 :: a4 :: a5 :: a6 :: a7 :: (a, x) :: L)) : Sep K0 (upd H a y) (a1 :: a2 :: a3 :: a4 :: a5 :: a6 :: a7 :: (a, y) :: L) := Sep.put (L1 := [a1, a2, a3, a4, a5, a6, a7]) s
theorem Sep.put8 (s : Sep K0 H (a1 :: a2 :: a3 :: a4 :: a5 :: a6 :: a7 :: a8 :: (a, x) :: L)) : Sep K0 (upd H a y) (a1 :: a2 :: a3 :: a4 :: a5 :: a6 :: a7 :: a8 :: (a, y) :: L) := Sep.put (L1 := [a1, a2, a3, a4, a5, a6, a7, a8]) s
theorem Sep.up7 (s : Sep K0 H (a1 :: a2 :: a3 :: a4 :: a5 :: a6 :: a7 :: e :: L)) : Sep K0 H (e :: a1 :: a2 :: a3 :: a4 :: a5 :: a6 :: a7 :: L) := s.perm (List.perm_middle (l₁ := [a1, a2, a3, a4, a5, a6, a7])).symm
theorem Sep.dn7 (s : Sep K0 H (e :: a1 :: a2 :: a3 :: a4 :: a5 :: a6 :: a7 :: L)) : Sep K0 H (a1 :: a2 :: a3 :: a4 :: a5 :: a6 :: a7 :: e :: L) := s.perm (List.perm_middle (l₁ := [a1, a2, a3, a4, a5, a6, a7]))
theorem Sep.up9 (s : Sep K0 H (a1 :: a2 :: a3 :: a4 :: a5 :: a6 :: a7 :: a8 :: a9 :: e :: L)) : Sep K0 H (e :: a1 :: a2 :: a3 :: a4 :: a5 :: a6 :: a7 :: a8 :: a9 :: L) := s.perm (List.perm_middle (l₁ := [a1, a2, a3, a4, a5, a6, a7, a8, a9])).symm
theorem Sep.dn9 (s : Sep K0 H (e :: a1 :: a2 :: a3 :: a4 :: a5 :: a6 :: a7 :: a8 :: a9 :: L)) : Sep K0 H (a1 :: a2 :: a3 :: a4 :: a5 :: a6 :: a7 :: a8 :: a9 :: e :: L) := s.perm (List.perm_middle (l₁ := [a1, a2, a3, a4, a5, a6, a7, a8, a9]))
end
structure StOk (S : SetD) (c : CallD) : Prop where
  ln : c.line ∈ S.ls
  st : ∃ st, stepOf c = some st
theorem StOk.ok {S : SetD} {c : CallD} {st : SD} (h : StOk S c) (ok : SetOk S) (e : stepOf c = some st) : StepOk S.ls S.ws st := ok.all c.line h.ln st (List.mem_of_getElem? e)
theorem CallOk.stOk {S : SetD} {c : CallD} (h : CallOk S c) : StOk S c := ⟨h.ln, by
  rcases h.st with ⟨n, e, _⟩ | ⟨f, e, _⟩
  · exact ⟨_, e⟩
  · exact ⟨_, e⟩⟩
def sp_Processor_lets_by (K : PySem.W.Frag) : Sp := fun vs H Q _ => ∃ (A : AdB) (P : AdP) (S : SetD) (K0 : Hp) (b : BdD) (p : PrD) (M : List (Addr × HO)) (l : LineD), vs = [.ref P.pr, .str l.name] ∧ Own K A P S K0 H b p M ∧ l ∈ S.ls ∧ (∀ c ∈ p.stack, c.line ∈ S.ls) ∧ Q (.bl (decide (floorA p < l.rank))) H
def sp_Processor_present_step (K : PySem.W.Frag) : Sp := fun vs H Q _ => ∃ (A : AdB) (P : AdP) (S : SetD) (K0 : Hp) (b : BdD) (p : PrD) (M : List (Addr × HO)) (rest : List CallD) (c : CallD) (st : SD), vs = [.ref P.pr] ∧ Own K A P S K0 H b p M ∧ p.stack = rest ++ [c] ∧ c.line ∈ S.ls ∧ stepOf c = some st ∧ ∀ v H', Same H H' → StepAt K K0 v st → Q v H'
def sp_Processor_passes_flag (K : PySem.W.Frag) : Sp := fun vs H Q _ => ∃ (A : AdB) (P : AdP) (S : SetD) (K0 : Hp) (b : BdD) (p : PrD) (M : List (Addr × HO)), vs = [.ref P.pr] ∧ Own K A P S K0 H b p M ∧ (∀ c ∈ p.stack, StOk S c) ∧ ∀ H', Same H H' → Q (.bl (passes b p)) H'
def sp_Processor_takes_no_tick (K : PySem.W.Frag) : Sp := fun vs H Q _ => ∃ (A : AdB) (P : AdP) (S : SetD) (K0 : Hp) (b : BdD) (p : PrD) (M : List (Addr × HO)) (v : V) (st : SD), vs = [.ref P.pr, v] ∧ Own K A P S K0 H b p M ∧ StepAt K H v st ∧ StepOk S.ls S.ws st ∧ Q (.bl (takesNo b st)) H
def sp_Processor_act (K : PySem.W.Frag) : Sp := fun vs H Q _ => ∃ (A : AdB) (P : AdP) (S : SetD) (K0 : Hp) (b : BdD) (p : PrD) (M : List (Addr × HO)) (v : V) (st : SD), vs = [.ref P.pr, v] ∧ StepAt K K0 v st ∧ StepOk S.ls S.ws st ∧ takesNo b st = true ∧ Own K A P S K0 H b p M ∧ RowsIn S.ws p.rows ∧ p.rows.length ≤ 4000 ∧
  ∀ K1 H', Same K0 K1 → Own K A P S K1 H' (actB b st) (actP S.ws p st) M → Q .non H'
theorem last_snoc {α : Type} {l : List α} {x : α} : (l ++ [x]).getLast? = some x := by simp
theorem floor_nil {p : PrD} (h : p.stack = []) : floorA p = p.bar := by unfold floorA; rw [h]; rfl
theorem floor_snoc {p : PrD} {r : List CallD} {c : CallD} (h : p.stack = r ++ [c]) : floorA p = if c.line.rank > p.bar then c.line.rank else p.bar := by unfold floorA; rw [h, last_snoc]
theorem passes_nil {b : BdD} {p : PrD} (h : p.stack = []) : passes b p = false := by unfold passes; rw [h]; rfl
def SD.upIn (b : BdD) : SD → Bool
  | .await f => b.fl.getD f false
  | _ => false
theorem passes_snoc {b : BdD} {p : PrD} {r : List CallD} {c : CallD} {st : SD} (h : p.stack = r ++ [c]) (hs : stepOf c = some st) : passes b p = st.upIn b := by
  unfold passes
  rw [h, last_snoc]
  simp only [hs]
  cases st <;> rfl
theorem flagB_len {b : BdD} {f : Nat} {v : Bool} : (flagB b f v).fl.length = b.fl.length := by show (b.fl.set f v).length = _; rw [List.length_set]
theorem actB_len {b : BdD} {st : SD} : (actB b st).fl.length = b.fl.length := by
  cases st <;> first | rfl | exact flagB_len

section
variable {P : Program} {w : World} {K : PySem.W.Frag} {mg : Str → Option Value} {base : Heap}

abbrev N_Processor_lets_by : List Str := ["self", "line", "floor"]
theorem sc_Processor_lets_by : FnScope N_Processor_lets_by ["self", "line"] (C8.fnScope s_Processor_lets_by) := C8.fnScope_by (by decide +kernel)
theorem ok_Processor_lets_by {fd : FuncData} (T : Txt K mg) (F : FunD K "_lets_by" "Processor._lets_by" (C8.fnArgs s_Processor_lets_by) (C8.fnBody s_Processor_lets_by) (C8.fnScope s_Processor_lets_by) [] [] (He.ma K (aC "Processor" K) "_lets_by") fd) (c_getitem : C8.Met P w K mg base 2 (aC "Setup" K) "__getitem__" (sp_Setup_getitem K) []) :
    C8.Met P w K mg base 4 (aC "Processor" K) "_lets_by" (sp_Processor_lets_by K) [] := by
  refine C8.met0 T.cl_Processor T.m_Processor_lets_by (fun_c8 F) (F.bindsN fun _ _ _ _ _ _ us hl => match us, hl with | [_, _], _ => rfl) sc_Processor_lets_by (fun vs H Q E h => ?_) (fun cdv A outer s H vs Q E hr h => ?_)
  · obtain ⟨_, _, _, _, _, _, _, _, rfl, _⟩ := h
    rfl
  · have nd := sc_Processor_lets_by.nd
    have hu := hu_of hr
    obtain ⟨A, P, S, K0, b, p, M, l, rfl, ow, hl, hc, q⟩ := h
    refine ⟨_, (pss_cons (ps_set (i := 2) nd rfl (Or.inl rfl) (pe_fld (pv 0) rfl))
      (pss_cons (ps_if (pt_truth (pe_fld (pv 0) rfl) (by intro _; rfl)) (pss_one (ps_set (i := 2) nd rfl (Or.inl rfl) (pe_callB (call_max2 rfl) (by rfl) T.n_max (by decide +kernel) (pa_cons (pv 2) (pa_cons (pe_ix ix_tup (C_ix T.m_Setup_getitem T.i_getitem c_getitem hr (by decide) (pe_fld (pv 0) rfl) (pe_ix ix_tup (pe_ix ix_list (pe_fld (pv 0) rfl) (pe_un un_neg pe_int) (fun _ _ => rfl)) pe_int (fun _ _ => rfl))) pe_int (fun _ _ => rfl)) pa_nil))))) pss_nil)
      (pss_one (ps_ret (pe_cmpR op_gt (pe_ix ix_tup (C_ix T.m_Setup_getitem T.i_getitem c_getitem hr (by decide) (pe_fld (pv 0) rfl) (pv 1)) pe_int (fun _ _ => rfl)) (pv 2) (nomark _)))))), ?_⟩
    obtain ⟨sv, rv, h1, h2, sp⟩ := ow.ex
    have hpr := sp.c5
    have B := BoardAt.up sp.ext ow.fb
    obtain ⟨dx2, _, _, _, _, _, h3, _⟩ := B.su.ex
    refine ⟨_, rfl, _, _, _, _, _, rfl, hpr, T.cl_Processor, T.t_Processor_bar, rfl, ?_⟩
    rcases List.eq_nil_or_concat p.stack with e1 | ⟨rest, c, e1⟩
    · rw [floor_nil e1] at q
      rw [e1] at h1
      cases h1
      refine ⟨_, rfl, _, _, _, _, _, rfl, hpr, T.cl_Processor, T.t_Processor_stack, rfl, false, .inl ⟨_, l_of sp.c6, rfl⟩, iteF ?_⟩
      refine ⟨_, rfl, _, _, _, _, _, rfl, hpr, T.cl_Processor, T.t_Processor_setup, rfl, _, rfl, A.su, dx2, _, rfl, h3, A.su, S, l, K0, rfl, ow.fb.su, sp.ext, ow.fb.ok, hl, fun v hv => ?_⟩
      obtain ⟨a, g1, hs1, rfl, h5, h6, h7⟩ := hv
      exact ⟨_, _, _, _, rfl, rfl, Same.tup sp.ext h5, rfl, _, rfl, _, _, rfl, rfl, q⟩
    · rw [List.concat_eq_append] at e1
      rw [floor_snoc e1] at q
      have h1' := h1
      rw [e1] at h1'
      obtain ⟨sv', v, e2, h4, t, rfl, ht⟩ := psnoc h1'
      have hlc := hc c (by rw [e1]; simp)
      have hc3 := sp.c6
      rw [e2] at hc3
      refine ⟨_, rfl, _, _, _, _, _, rfl, hpr, T.cl_Processor, T.t_Processor_stack, rfl, true, .inl ⟨_, l_of sp.c6, by rw [e2]; simp⟩, iteT ?_⟩
      refine ⟨_, rfl, _, rfl, _, _, _, _, _, rfl, hpr, T.cl_Processor, T.t_Processor_setup, rfl, _, rfl, _, _, _, _, _, rfl, hpr, T.cl_Processor, T.t_Processor_stack, rfl, _, rfl, _, _, _, _, rfl, rfl, l_of hc3, atIm, _, _, _, _, rfl, rfl, Same.tup sp.ext ht, rfl, A.su, dx2, _, rfl, h3, A.su, S, c.line, K0, rfl, ow.fb.su, sp.ext, ow.fb.ok, hlc, fun v hv => ?_⟩
      obtain ⟨a, g1, hs1, rfl, h5, h6, h7⟩ := hv
      refine ⟨_, _, _, _, rfl, rfl, Same.tup sp.ext h5, rfl, _, _, rfl, ?_⟩
      refine ⟨_, rfl, _, _, _, _, _, rfl, hpr, T.cl_Processor, T.t_Processor_setup, rfl, _, rfl, A.su, dx2, _, rfl, h3, A.su, S, l, K0, rfl, ow.fb.su, sp.ext, ow.fb.ok, hl, fun v hv => ?_⟩
      obtain ⟨a, g1, hs1, rfl, h5, h6, h7⟩ := hv
      exact ⟨_, _, _, _, rfl, rfl, Same.tup sp.ext h5, rfl, _, rfl, _, _, rfl, rfl, q⟩
abbrev N_Processor_present_step : List Str := ["self", "line", "step"]
theorem sc_Processor_present_step : FnScope N_Processor_present_step ["self"] (C8.fnScope s_Processor_present_step) := C8.fnScope_by (by decide +kernel)
theorem ok_Processor_present_step {fd : FuncData} (T : Txt K mg) (F : FunD K "_present_step" "Processor._present_step" (C8.fnArgs s_Processor_present_step) (C8.fnBody s_Processor_present_step) (C8.fnScope s_Processor_present_step) [] [] (He.ma K (aC "Processor" K) "_present_step") fd) (c_getitem : C8.Met P w K mg base 2 (aC "Setup" K) "__getitem__" (sp_Setup_getitem K) []) :
    C8.Met P w K mg base 4 (aC "Processor" K) "_present_step" (sp_Processor_present_step K) [] := by
  refine C8.met0 T.cl_Processor T.m_Processor_present_step (fun_c8 F) (F.bindsN fun _ _ _ _ _ _ us hl => match us, hl with | [_], _ => rfl) sc_Processor_present_step (fun vs H Q E h => ?_) (fun cdv A outer s H vs Q E hr h => ?_)
  · obtain ⟨_, _, _, _, _, _, _, _, _, _, rfl, _⟩ := h
    rfl
  · have nd := sc_Processor_present_step.nd
    have hu := hu_of hr
    obtain ⟨A, P, S, K0, b, p, M, rest, c, st, rfl, ow, hst, hl, hs, q⟩ := h
    refine ⟨_, (pss_cons (ps_asg (pe_slice sl_tup (pe_ix ix_list (pe_fld (pv 0) rfl) (pe_un un_neg pe_int) (fun _ _ => rfl)) po_none (po_some pe_int)) (pg_tup rfl (pgs_cons (pg_name (i := 1) nd rfl (Or.inl rfl)) (pgs_cons (pg_name (i := 2) nd rfl (Or.inl rfl)) pgs_nil))))
      (pss_one (ps_ret (pe_ix ix_tup (pe_ix ix_tup (C_ix T.m_Setup_getitem T.i_getitem c_getitem hr (by decide) (pe_fld (pv 0) rfl) (pv 1)) pe_int (fun _ _ => rfl)) (pv 2) (fun _ _ => rfl))))), ?_⟩
    obtain ⟨sv, rv, h1, h2, sp⟩ := ow.ex
    have hpr := sp.c5
    have B := BoardAt.up sp.ext ow.fb
    obtain ⟨dx2, _, _, _, _, _, h3, _⟩ := B.su.ex
    rw [hst] at h1
    obtain ⟨sv', v, rfl, h4, t, rfl, ht⟩ := psnoc h1
    refine ⟨_, rfl, _, _, _, _, _, rfl, hpr, T.cl_Processor, T.t_Processor_stack, rfl, _, rfl, _, _, _, _, rfl, rfl, l_of sp.c6, atIm, _, rfl, _, _, rfl, Same.tup sp.ext ht, by simp [HT.sIx], fun a hp => ?_⟩
    rw [cut2]
    have sp2 := sp.drop (o := .tup [.str c.line.name, .int (c.step : Nat)]) hp
    have g := same_new (o := .tup [.str c.line.name, .int (c.step : Nat)]) (Same.refl H) hp
    have hpr2 := g _ _ hpr
    refine ⟨_, _, rfl, t_of upd_same, rfl, _, _, rfl, _, _, rfl, rfl, ?_⟩
    refine ⟨_, rfl, _, _, _, _, _, rfl, hpr2, T.cl_Processor, T.t_Processor_setup, rfl, _, rfl, A.su, dx2, _, rfl, g _ _ h3, A.su, S, c.line, K0, rfl, ow.fb.su, sp2.ext, ow.fb.ok, hl, fun v hv => ?_⟩
    obtain ⟨a, g1, hs1, rfl, h5, h6, h7⟩ := hv
    obtain ⟨x, hx, hx2⟩ := pgetr h7 hs
    exact ⟨_, _, _, _, rfl, rfl, Same.tup sp2.ext h5, rfl, _, rfl, _, _, _, _, rfl, rfl, Same.tup sp2.ext h6, atIn hx, q _ _ g hx2⟩
abbrev N_Processor_passes_flag : List Str := ["self", "word", "what"]
theorem sc_Processor_passes_flag : FnScope N_Processor_passes_flag ["self"] (C8.fnScope s_Processor_passes_flag) := C8.fnScope_by (by decide +kernel)
theorem ok_Processor_passes_flag {fd : FuncData} (T : Txt K mg) (F : FunD K "_passes_flag" "Processor._passes_flag" (C8.fnArgs s_Processor_passes_flag) (C8.fnBody s_Processor_passes_flag) (C8.fnScope s_Processor_passes_flag) [] [] (He.ma K (aC "Processor" K) "_passes_flag") fd) (c_present_step : C8.Met P w K mg base 4 (aC "Processor" K) "_present_step" (sp_Processor_present_step K) []) (c_is_up : C8.Met P w K mg base 1 (aC "Board" K) "is_up" (sp_Board_is_up K) []) :
    C8.Met P w K mg base 5 (aC "Processor" K) "_passes_flag" (sp_Processor_passes_flag K) [] := by
  refine C8.met0 T.cl_Processor T.m_Processor_passes_flag (fun_c8 F) (F.bindsN fun _ _ _ _ _ _ us hl => match us, hl with | [_], _ => rfl) sc_Processor_passes_flag (fun vs H Q E h => ?_) (fun cdv A outer s H vs Q E hr h => ?_)
  · obtain ⟨_, _, _, _, _, _, _, rfl, _⟩ := h
    rfl
  · have nd := sc_Processor_passes_flag.nd
    have hu := hu_of hr
    obtain ⟨A, P, S, K0, b, p, M, rfl, ow, hc, q⟩ := h
    refine ⟨_, (pss_cons (ps_if (pt_not (pt_truth (pe_fld (pv 0) rfl) (by intro _; rfl))) (pss_one (ps_ret pe_bl)) pss_nil)
      (pss_cons (ps_asg (C8.pe_mt0 c_present_step hr (by decide) (pv 0)) (pg_tup rfl (pgs_cons (pg_name (i := 1) nd rfl (Or.inl rfl)) (pgs_cons (pg_name (i := 2) nd rfl (Or.inl rfl)) pgs_nil))))
      (pss_one (ps_ret (pe_and (pe_cmpR op_eq (pv 1) pe_str (nomark _)) (pe_one (C8.pe_mt c_is_up hr (by decide) (pe_fld (pv 0) rfl) (pa_cons (pv 2) pa_nil)))))))), ?_⟩
    obtain ⟨sv, rv, h1, h2, sp⟩ := ow.ex
    have hpr := sp.c5
    have B := BoardAt.up sp.ext ow.fb
    obtain ⟨dx2, _, _, _, _, _, h3, _⟩ := B.su.ex
    rcases List.eq_nil_or_concat p.stack with e1 | ⟨rest, c, e1⟩
    · rw [passes_nil e1] at q
      rw [e1] at h1
      cases h1
      exact ⟨_, rfl, _, _, _, _, _, rfl, hpr, T.cl_Processor, T.t_Processor_stack, rfl, false, .inl ⟨_, l_of sp.c6, rfl⟩, iteT (q H (Same.refl H))⟩
    rw [List.concat_eq_append] at e1
    have h1' := h1
    rw [e1] at h1'
    obtain ⟨sv', v, e2, h4, t, rfl, ht⟩ := psnoc h1'
    have so := hc c (by rw [e1]; simp)
    obtain ⟨st, hs⟩ := so.st
    have sk := so.ok ow.fb.ok hs
    have ep := passes_snoc (b := b) e1 hs
    refine ⟨_, rfl, _, _, _, _, _, rfl, hpr, T.cl_Processor, T.t_Processor_stack, rfl, true, .inl ⟨_, l_of sp.c6, by rw [e2]; simp⟩, iteF ?_⟩
    refine ⟨_, rfl, P.pr, P.dp, _, rfl, hpr, rfl, A, P, S, K0, b, p, M, rest, c, st, rfl, ow, e1, so.ln, hs, fun v H1 g1 hv => ?_⟩
    obtain ⟨a, rfl, ha⟩ := hv
    rw [ep] at q
    refine ⟨_, _, rfl, Same.tup (Same.tr sp.ext g1) ha, rfl, _, _, rfl, _, _, rfl, rfl, ?_⟩
    have sp1 := sp.grow g1
    have hpr1 := sp1.c5
    have hbo := sp1.ext _ _ ow.fb.at_
    cases st with
    | await f => exact ⟨_, rfl, rfl, true, rfl, iteT ⟨_, rfl, _, _, _, _, _, rfl, hpr1, T.cl_Processor, T.t_Processor_board, rfl, A.bo, A.db, _, rfl, hbo, rfl, _, rfl, A, S, f, K0, b, _, rfl, ⟨ow.fb, ow.fl, sp1⟩, sk, q H1 g1⟩⟩
    | run n => exact ⟨_, rfl, rfl, false, rfl, iteF (q H1 g1)⟩
    | ring n => exact ⟨_, rfl, rfl, false, rfl, iteF (q H1 g1)⟩
    | quiet n => exact ⟨_, rfl, rfl, false, rfl, iteF (q H1 g1)⟩
    | mask n => exact ⟨_, rfl, rfl, false, rfl, iteF (q H1 g1)⟩
    | unmask n => exact ⟨_, rfl, rfl, false, rfl, iteF (q H1 g1)⟩
    | setf n => exact ⟨_, rfl, rfl, false, rfl, iteF (q H1 g1)⟩
    | clearf n => exact ⟨_, rfl, rfl, false, rfl, iteF (q H1 g1)⟩
    | bar n => exact ⟨_, rfl, rfl, false, rfl, iteF (q H1 g1)⟩
    | later n => exact ⟨_, rfl, rfl, false, rfl, iteF (q H1 g1)⟩
abbrev N_Processor_takes_no_tick : List Str := ["self", "step", "word", "what"]
theorem sc_Processor_takes_no_tick : FnScope N_Processor_takes_no_tick ["self", "step"] (C8.fnScope s_Processor_takes_no_tick) := C8.fnScope_by (by decide +kernel)
theorem ok_Processor_takes_no_tick {fd : FuncData} (T : Txt K mg) (F : FunD K "_takes_no_tick" "Processor._takes_no_tick" (C8.fnArgs s_Processor_takes_no_tick) (C8.fnBody s_Processor_takes_no_tick) (C8.fnScope s_Processor_takes_no_tick) [] [] (He.ma K (aC "Processor" K) "_takes_no_tick") fd) (c_is_up : C8.Met P w K mg base 1 (aC "Board" K) "is_up" (sp_Board_is_up K) []) :
    C8.Met P w K mg base 2 (aC "Processor" K) "_takes_no_tick" (sp_Processor_takes_no_tick K) [] := by
  refine C8.met0 T.cl_Processor T.m_Processor_takes_no_tick (fun_c8 F) (F.bindsN fun _ _ _ _ _ _ us hl => match us, hl with | [_, _], _ => rfl) sc_Processor_takes_no_tick (fun vs H Q E h => ?_) (fun cdv A outer s H vs Q E hr h => ?_)
  · obtain ⟨_, _, _, _, _, _, _, _, _, rfl, _⟩ := h
    rfl
  · have nd := sc_Processor_takes_no_tick.nd
    have hu := hu_of hr
    obtain ⟨A, P, S, K0, b, p, M, v, st, rfl, ow, ⟨a, rfl, ha⟩, sk, q⟩ := h
    refine ⟨_, (pss_cons (ps_asg (pv 1) (pg_tup rfl (pgs_cons (pg_name (i := 2) nd rfl (Or.inl rfl)) (pgs_cons (pg_name (i := 3) nd rfl (Or.inl rfl)) pgs_nil))))
      (pss_cons (ps_if (pt_cmpR op_eq (pv 2) pe_str (nomark _)) (pss_one (ps_ret (C8.pe_mt c_is_up hr (by decide) (pe_fld (pv 0) rfl) (pa_cons (pv 3) pa_nil)))) pss_nil)
      (pss_one (ps_ret (pe_cmpR op_ne (pv 2) pe_str (nomark _)))))), ?_⟩
    obtain ⟨sv, rv, h1, h2, sp⟩ := ow.ex
    have hpr := sp.c5
    have B := BoardAt.up sp.ext ow.fb
    obtain ⟨dx2, _, _, _, _, _, h3, _⟩ := B.su.ex
    have hbo := B.at_
    refine ⟨_, rfl, _, _, rfl, ha, rfl, _, _, rfl, _, _, rfl, rfl, ?_⟩
    cases st with
    | await f => exact ⟨_, rfl, rfl, true, rfl, iteT ⟨_, rfl, _, _, _, _, _, rfl, hpr, T.cl_Processor, T.t_Processor_board, rfl, A.bo, A.db, _, rfl, hbo, rfl, _, rfl, A, S, f, K0, b, _, rfl, ⟨ow.fb, ow.fl, sp⟩, sk, q⟩⟩
    | run n => exact ⟨_, rfl, rfl, false, rfl, iteF ⟨_, rfl, rfl, q⟩⟩
    | ring n => exact ⟨_, rfl, rfl, false, rfl, iteF ⟨_, rfl, rfl, q⟩⟩
    | quiet n => exact ⟨_, rfl, rfl, false, rfl, iteF ⟨_, rfl, rfl, q⟩⟩
    | mask n => exact ⟨_, rfl, rfl, false, rfl, iteF ⟨_, rfl, rfl, q⟩⟩
    | unmask n => exact ⟨_, rfl, rfl, false, rfl, iteF ⟨_, rfl, rfl, q⟩⟩
    | setf n => exact ⟨_, rfl, rfl, false, rfl, iteF ⟨_, rfl, rfl, q⟩⟩
    | clearf n => exact ⟨_, rfl, rfl, false, rfl, iteF ⟨_, rfl, rfl, q⟩⟩
    | bar n => exact ⟨_, rfl, rfl, false, rfl, iteF ⟨_, rfl, rfl, q⟩⟩
    | later n => exact ⟨_, rfl, rfl, false, rfl, iteF ⟨_, rfl, rfl, q⟩⟩
abbrev N_Processor_act : List Str := ["self", "step", "word", "what"]
theorem sc_Processor_act : FnScope N_Processor_act ["self", "step"] (C8.fnScope s_Processor_act) := C8.fnScope_by (by decide +kernel)
theorem ok_Processor_act {fd : FuncData} (T : Txt K mg) (F : FunD K "_act" "Processor._act" (C8.fnArgs s_Processor_act) (C8.fnBody s_Processor_act) (C8.fnScope s_Processor_act) [] [] (He.ma K (aC "Processor" K) "_act") fd) (c_put : C8.Met P w K mg base 1 (aC "WorkQueue" K) "put" (sp_WorkQueue_put K) [.int 0]) (c_bact : C8.Met P w K mg base 6 (aC "Board" K) "act" (sp_Board_act K) []) :
    C8.Met P w K mg base 7 (aC "Processor" K) "_act" (sp_Processor_act K) [] := by
  refine C8.met0 T.cl_Processor T.m_Processor_act (fun_c8 F) (F.bindsN fun _ _ _ _ _ _ us hl => match us, hl with | [_, _], _ => rfl) sc_Processor_act (fun vs H Q E h => ?_) (fun cdv A outer s H vs Q E hr h => ?_)
  · obtain ⟨_, _, _, _, _, _, _, _, _, rfl, _⟩ := h
    rfl
  · have nd := sc_Processor_act.nd
    have hu := hu_of hr
    obtain ⟨A, P, S, K0, b, p, M, v, st, rfl, ⟨a, rfl, ha⟩, sk, tn, ow, ri, hl, q⟩ := h
    refine ⟨_, (pss_cons (ps_asg (pv 1) (pg_tup rfl (pgs_cons (pg_name (i := 2) nd rfl (Or.inl rfl)) (pgs_cons (pg_name (i := 3) nd rfl (Or.inl rfl)) pgs_nil))))
      (pss_one (ps_if (pt_cmpR op_eq (pv 2) pe_str (nomark _)) (pss_one (ps_fld (pv 0) (pv 3) rfl)) (pss_one (ps_if (pt_cmpR op_eq (pv 2) pe_str (nomark _)) (pss_one (ps_expr (C8.pe_mt c_put hr (by decide) (pe_fld (pv 0) rfl) (pa_cons (pv 3) pa_nil)))) (pss_one (ps_expr (C8.pe_mt c_bact hr (by decide) (pe_fld (pv 0) rfl) (pa_cons (pv 2) (pa_cons (pv 3) pa_nil)))))))))), ?_⟩
    obtain ⟨sv, rv, h1, h2, sp⟩ := ow.ex
    have hpr := sp.c5
    have B := BoardAt.up sp.ext ow.fb
    obtain ⟨dx2, _, _, _, _, _, h3, _⟩ := B.su.ex
    have hbo := B.at_
    obtain ⟨dj, rk, ln, j1, _⟩ := (JobsAt.up sp.ext ow.fj).ex
    refine ⟨_, rfl, _, _, rfl, Same.tup sp.ext ha, rfl, _, _, rfl, _, _, rfl, rfl, ?_⟩
    cases st with
    | run n => cases tn
    | bar n =>
      refine ⟨_, rfl, rfl, true, rfl, iteT ⟨_, rfl, _, rfl, _, _, _, _, rfl, hpr, T.cl_Processor, T.t_Processor_bar, (by simp), ?_⟩⟩
      exact q K0 _ (Same.refl K0) (ow.mk2 (b' := b) (p' := { p with bar := n }) (Same.refl K0) ow.fl ⟨sv, rv, h1, h2, sp.put5 (y := prI K A P n)⟩)
    | later n =>
      obtain ⟨w, hw, rfl⟩ := sk
      refine ⟨_, rfl, rfl, false, rfl, iteF ⟨_, rfl, rfl, true, rfl, iteT ?_⟩⟩
      refine ⟨_, rfl, _, _, _, _, _, rfl, hpr, T.cl_Processor, T.t_Processor_jobs, rfl, P.jo, dj, _, rfl, j1, rfl, _, rfl, P.jo, P.ro, S.ws, rv, p.rows, w, 0, K0, _, rfl, ow.fj, ri, hw, h2, hl, sp.up7, fun K1 H1 rv' g hp sp1 => ?_⟩
      exact q K1 H1 g (ow.mk2 (b' := b) (p' := { p with rows := putR S.ws p.rows w.name 0 }) g ow.fl ⟨sv, rv', h1.mono fun _ _ z => CallAt.up g z, hp, sp1.dn7⟩)
    | ring n => exact ⟨_, rfl, rfl, false, rfl, iteF ⟨_, rfl, rfl, false, rfl, iteF ⟨_, rfl, _, _, _, _, _, rfl, hpr, T.cl_Processor, T.t_Processor_board, rfl, A.bo, A.db, _, rfl, hbo, rfl, _, rfl, _, rfl, A, S, .ring n, K0, b, _, rfl, ⟨ow.fb, ow.fl, sp⟩, sk, rfl, fun H1 ow1 => q K0 H1 (Same.refl K0) ⟨ow.fb, ow.fj, ow1.fl, sv, rv, h1, h2, ow1.sp⟩⟩⟩⟩
    | quiet n => exact ⟨_, rfl, rfl, false, rfl, iteF ⟨_, rfl, rfl, false, rfl, iteF ⟨_, rfl, _, _, _, _, _, rfl, hpr, T.cl_Processor, T.t_Processor_board, rfl, A.bo, A.db, _, rfl, hbo, rfl, _, rfl, _, rfl, A, S, .quiet n, K0, b, _, rfl, ⟨ow.fb, ow.fl, sp⟩, sk, rfl, fun H1 ow1 => q K0 H1 (Same.refl K0) ⟨ow.fb, ow.fj, ow1.fl, sv, rv, h1, h2, ow1.sp⟩⟩⟩⟩
    | mask n => exact ⟨_, rfl, rfl, false, rfl, iteF ⟨_, rfl, rfl, false, rfl, iteF ⟨_, rfl, _, _, _, _, _, rfl, hpr, T.cl_Processor, T.t_Processor_board, rfl, A.bo, A.db, _, rfl, hbo, rfl, _, rfl, _, rfl, A, S, .mask n, K0, b, _, rfl, ⟨ow.fb, ow.fl, sp⟩, sk, rfl, fun H1 ow1 => q K0 H1 (Same.refl K0) ⟨ow.fb, ow.fj, ow1.fl, sv, rv, h1, h2, ow1.sp⟩⟩⟩⟩
    | unmask n => exact ⟨_, rfl, rfl, false, rfl, iteF ⟨_, rfl, rfl, false, rfl, iteF ⟨_, rfl, _, _, _, _, _, rfl, hpr, T.cl_Processor, T.t_Processor_board, rfl, A.bo, A.db, _, rfl, hbo, rfl, _, rfl, _, rfl, A, S, .unmask n, K0, b, _, rfl, ⟨ow.fb, ow.fl, sp⟩, sk, rfl, fun H1 ow1 => q K0 H1 (Same.refl K0) ⟨ow.fb, ow.fj, ow1.fl, sv, rv, h1, h2, ow1.sp⟩⟩⟩⟩
    | setf n => exact ⟨_, rfl, rfl, false, rfl, iteF ⟨_, rfl, rfl, false, rfl, iteF ⟨_, rfl, _, _, _, _, _, rfl, hpr, T.cl_Processor, T.t_Processor_board, rfl, A.bo, A.db, _, rfl, hbo, rfl, _, rfl, _, rfl, A, S, .setf n, K0, b, _, rfl, ⟨ow.fb, ow.fl, sp⟩, sk, rfl, fun H1 ow1 => q K0 H1 (Same.refl K0) ⟨ow.fb, ow.fj, ow1.fl, sv, rv, h1, h2, ow1.sp⟩⟩⟩⟩
    | clearf n => exact ⟨_, rfl, rfl, false, rfl, iteF ⟨_, rfl, rfl, false, rfl, iteF ⟨_, rfl, _, _, _, _, _, rfl, hpr, T.cl_Processor, T.t_Processor_board, rfl, A.bo, A.db, _, rfl, hbo, rfl, _, rfl, _, rfl, A, S, .clearf n, K0, b, _, rfl, ⟨ow.fb, ow.fl, sp⟩, sk, rfl, fun H1 ow1 => q K0 H1 (Same.refl K0) ⟨ow.fb, ow.fj, ow1.fl, sv, rv, h1, h2, ow1.sp⟩⟩⟩⟩
    | await n => exact ⟨_, rfl, rfl, false, rfl, iteF ⟨_, rfl, rfl, false, rfl, iteF ⟨_, rfl, _, _, _, _, _, rfl, hpr, T.cl_Processor, T.t_Processor_board, rfl, A.bo, A.db, _, rfl, hbo, rfl, _, rfl, _, rfl, A, S, .await n, K0, b, _, rfl, ⟨ow.fb, ow.fl, sp⟩, sk, rfl, fun H1 ow1 => q K0 H1 (Same.refl K0) ⟨ow.fb, ow.fj, ow1.fl, sv, rv, h1, h2, ow1.sp⟩⟩⟩⟩
end
end Cb

namespace Cb
open PySem PySem.Spec PyProof.Rows L2

theorem putR_in {ws : List WorkD} {rows : List (Str × Int)} {w : WorkD} {x : Int} (h : RowsIn ws rows) (hw : w ∈ ws) : RowsIn ws (putR ws rows w.name x) := by
  unfold putR
  split
  · exact h
  · intro r m
    simp only [List.mem_append, List.mem_singleton] at m
    rcases m with (m | m) | m
    · exact h r (List.mem_of_mem_take m)
    · subst m
      exact ⟨w, hw, rfl⟩
    · exact h r (List.mem_of_mem_drop m)
theorem putR_len {ws : List WorkD} {rows : List (Str × Int)} {n : Str} {x : Int} : (putR ws rows n x).length ≤ rows.length + 1 := by
  unfold putR
  split
  · omega
  · simp
    omega
theorem actP_in {S : SetD} {p : PrD} {st : SD} (h : RowsIn S.ws p.rows) (ok : StepOk S.ls S.ws st) : RowsIn S.ws (actP S.ws p st).rows := by
  cases st <;> try exact h
  case later w =>
    obtain ⟨x, hx, rfl⟩ := ok
    exact putR_in h hx
theorem actP_len {ws : List WorkD} {p : PrD} {st : SD} : (actP ws p st).rows.length ≤ p.rows.length + 1 := by
  cases st <;> try exact Nat.le_succ _
  exact putR_len
theorem actP_stack {ws : List WorkD} {p : PrD} {st : SD} : (actP ws p st).stack = p.stack := by cases st <;> rfl
theorem thru_step {ws : List WorkD} {l : List SD} {j : Nat} {b : BdD} {p : PrD} {st : SD} (h : l[j]? = some st) (t : takesNo b st = true) : thru ws (l.drop j) j b p = thru ws (l.drop (j + 1)) (j + 1) (actB b st) (actP ws p st) := by
  have hj : j < l.length := (List.getElem?_eq_some_iff.mp h).1
  have e : l[j] = st := (List.getElem?_eq_some_iff.mp h).2
  rw [List.drop_eq_getElem_cons hj, thru, e, if_pos t]
theorem thru_stop {ws : List WorkD} {l : List SD} {j : Nat} {b : BdD} {p : PrD} {st : SD} (h : l[j]? = some st) (t : takesNo b st = false) : thru ws (l.drop j) j b p = (j, b, p) := by
  have hj : j < l.length := (List.getElem?_eq_some_iff.mp h).1
  have e : l[j] = st := (List.getElem?_eq_some_iff.mp h).2
  rw [List.drop_eq_getElem_cons hj, thru, e, t]
  rfl
theorem thru_end {ws : List WorkD} {l : List SD} {j : Nat} {b : BdD} {p : PrD} (h : l.length ≤ j) : thru ws (l.drop j) j b p = (j, b, p) := by
  rw [List.drop_of_length_le h]
  rfl
theorem goA_snoc {ws : List WorkD} {b : BdD} {p : PrD} {r : List CallD} {c : CallD} (h : p.stack = r ++ [c]) : goA ws b p =
    let z := thru ws (c.line.steps.drop c.step) c.step b { p with stack := r }
    if z.1 < c.line.steps.length then (z.2.1, { z.2.2 with stack := z.2.2.stack ++ [⟨c.line, z.1, c.ticks, c.kept⟩] }, []) else (endB z.2.1 c.line, { z.2.2 with bar := c.kept }, [.fin c.line]) := by
  unfold goA
  rw [h, last_snoc]
  simp only [List.dropLast_concat]
def PostE (K : PySem.W.Frag) (A : AdB) (P : AdP) (S : SetD) (K0 : Hp) (M : List (Addr × HO)) (Q : VK) (z : BdD × PrD × List Ev) : Prop :=
  ∀ K1 H' a ev, Same K0 K1 → Own K A P S K1 H' z.1 z.2.1 M → K1 a = some (.lst ev) → Paired (EvAt K K1) ev z.2.2 → Q (.ref a) H'
def sp_Processor_go_through (K : PySem.W.Frag) : Sp := fun vs H Q _ => ∃ (A : AdB) (P : AdP) (S : SetD) (K0 : Hp) (b : BdD) (p : PrD) (M : List (Addr × HO)) (rest : List CallD) (c : CallD), vs = [.ref P.pr] ∧ Own K A P S K0 H b p M ∧ p.stack = rest ++ [c] ∧ c.line ∈ S.ls ∧ c.step ≤ c.line.steps.length ∧ RowsIn S.ws p.rows ∧ p.rows.length ≤ 3900 ∧ p.stack.length ≤ 3900 ∧
  PostE K A P S K0 M Q (goA S.ws b p)

section
variable {P : Program} {w : World} {K : PySem.W.Frag} {mg : Str → Option Value} {base : Heap}

abbrev N_Processor_go_through : List Str := ["self", "line", "step", "ticks", "kept", "handler"]
theorem sc_Processor_go_through : FnScope N_Processor_go_through ["self"] (C8.fnScope s_Processor_go_through) := C8.fnScope_by (by decide +kernel)
theorem ok_Processor_go_through {fd : FuncData} (T : Txt K mg) (F : FunD K "_go_through" "Processor._go_through" (C8.fnArgs s_Processor_go_through) (C8.fnBody s_Processor_go_through) (C8.fnScope s_Processor_go_through) [] [] (He.ma K (aC "Processor" K) "_go_through") fd) (c_getitem : C8.Met P w K mg base 2 (aC "Setup" K) "__getitem__" (sp_Setup_getitem K) []) (c_takes_no_tick : C8.Met P w K mg base 2 (aC "Processor" K) "_takes_no_tick" (sp_Processor_takes_no_tick K) []) (c_act : C8.Met P w K mg base 7 (aC "Processor" K) "_act" (sp_Processor_act K) []) (c_end : C8.Met P w K mg base 1 (aC "Board" K) "end" (sp_Board_end K) []) :
    C8.Met P w K mg base 8 (aC "Processor" K) "_go_through" (sp_Processor_go_through K) [] := by
  refine C8.met0 T.cl_Processor T.m_Processor_go_through (fun_c8 F) (F.bindsN fun _ _ _ _ _ _ us hl => match us, hl with | [_], _ => rfl) sc_Processor_go_through (fun vs H Q E h => ?_) (fun cdv A outer s H vs Q E hr h => ?_)
  · obtain ⟨_, _, _, _, _, _, _, _, _, rfl, _⟩ := h
    rfl
  · have nd := sc_Processor_go_through.nd
    have hu := hu_of hr
    obtain ⟨A, P, S, K0, b, p, M, rest, c, rfl, ow, hst, hl, hcs, hrows, hrl, hsl, q⟩ := h
    refine ⟨_, (pss_cons (ps_asg (pe_bm0 PySem.F.plainAttrs_list PySem.F.slot_list_pop PySem.F.type_list_pop mt_pop (pe_fld (pv 0) rfl)) (pg_tup rfl (pgs_cons (pg_name (i := 1) nd rfl (Or.inl rfl)) (pgs_cons (pg_name (i := 2) nd rfl (Or.inl rfl)) (pgs_cons (pg_name (i := 3) nd rfl (Or.inl rfl)) (pgs_cons (pg_name (i := 4) nd rfl (Or.inl rfl)) pgs_nil))))))
      (pss_cons (ps_set (i := 5) nd rfl (Or.inl rfl) (pe_ix ix_tup (C_ix T.m_Setup_getitem T.i_getitem c_getitem hr (by decide) (pe_fld (pv 0) rfl) (pv 1)) pe_int (fun _ _ => rfl)))
      (pss_cons (ps_while PassesOwn.never (PW.pt (pw_and (pt_cmpR op_lt (pv 2) (pe_callB call_len_seq (by rfl) T.n_len (by decide +kernel) (pa_cons (pv 5) pa_nil)) (nomark _)) (pw_and1 (pt_val (C8.pe_mt c_takes_no_tick hr (by decide) (pv 0) (pa_cons (pe_ix ix_tup (pv 5) (pv 2) (fun _ _ => rfl)) pa_nil)))))) (pss_cons (ps_expr (C8.pe_mt c_act hr (by decide) (pv 0) (pa_cons (pe_ix ix_tup (pv 5) (pv 2) (fun _ _ => rfl)) pa_nil)))
      (pss_one (ps_aug (i := 2) nd rfl (Or.inl rfl) pe_int ip_add))))
      (pss_cons (ps_if (pt_cmpR op_lt (pv 2) (pe_callB call_len_seq (by rfl) T.n_len (by decide +kernel) (pa_cons (pv 5) pa_nil)) (nomark _)) (pss_cons (ps_expr (pe_bm PySem.F.plainAttrs_list PySem.F.slot_list_append PySem.F.type_list_append mt_append (pe_fld (pv 0) rfl) (pa_cons (pe_tup (pa_cons (pv 1) (pa_cons (pv 2) (pa_cons (pv 3) (pa_cons (pv 4) pa_nil))))) pa_nil)))
      (pss_one (ps_ret (pe_lst pa_nil)))) pss_nil)
      (pss_cons (ps_fld (pv 0) (pv 4) rfl)
      (pss_cons (ps_expr (C8.pe_mt c_end hr (by decide) (pe_fld (pv 0) rfl) (pa_cons (pv 1) pa_nil)))
      (pss_one (ps_ret (pe_lst (pa_cons (pe_tup (pa_cons pe_str (pa_cons (pv 1) pa_nil))) pa_nil)))))))))), ?_⟩
    obtain ⟨sv, rv, h1, h2, sp⟩ := ow.ex
    have hpr := sp.c5
    have B := BoardAt.up sp.ext ow.fb
    obtain ⟨dx2, _, _, _, _, _, h3, _⟩ := ow.fb.su.ex
    rw [hst] at h1
    obtain ⟨sv', v, e2, h4, t, rfl, ht⟩ := psnoc h1
    have hc3 := sp.c6
    rw [e2] at hc3
    have hlast : (sv' ++ [V.ref t])[(sv' ++ [V.ref t]).length - 1]? = some (V.ref t) := by simp
    rw [goA_snoc hst] at q
    refine ⟨_, rfl, _, _, _, _, _, rfl, hpr, T.cl_Processor, T.t_Processor_stack, rfl, .inl ⟨rfl, _, .inl (.inl hc3)⟩, _, _, _, rfl, rfl, hc3, hlast, ?_⟩
    rw [List.dropLast_concat]
    have sp1 := sp.put6 (y := .lst sv')
    have ow1 : Own K A P S K0 (upd H P.st (.lst sv')) b { p with stack := rest } M := ow.mk2 (Same.refl K0) ow.fl ⟨sv', rv, h4, h2, sp1⟩
    have hpr1 := sp1.c5
    refine ⟨_, _, rfl, Same.tup sp1.ext ht, rfl, _, _, rfl, _, _, rfl, _, _, rfl, _, _, rfl, rfl, ?_⟩
    refine ⟨_, rfl, _, _, _, _, _, rfl, hpr1, T.cl_Processor, T.t_Processor_setup, rfl, _, rfl, A.su, dx2, _, rfl, sp1.ext _ _ h3, A.su, S, c.line, K0, rfl, ow.fb.su, sp1.ext, ow.fb.ok, hl, fun v hv => ?_⟩
    obtain ⟨a, g1, hs1, rfl, h5, h6, h7⟩ := hv
    have hlen := h7.length
    refine ⟨_, _, _, _, rfl, rfl, Same.tup sp1.ext h5, rfl, ?_⟩
    refine ⟨fun m σ H' => ∃ j, m = c.line.steps.length - j ∧ c.step ≤ j ∧ j ≤ c.line.steps.length ∧ ∃ K' b' p', σ = [some (.ref P.pr), some (.str c.line.name), some (.int (j : Nat)), some (.int c.ticks), some (.int c.kept), some (.ref g1)] ∧ Same K0 K' ∧ Own K A P S K' H' b' p' M ∧ p'.stack = rest ∧ RowsIn S.ws p'.rows ∧ p'.rows.length ≤ p.rows.length + (j - c.step) ∧ thru S.ws (c.line.steps.drop c.step) c.step b { p with stack := rest } = thru S.ws (c.line.steps.drop (j)) (j) b' p', ⟨_, c.step, rfl, Nat.le_refl _, hcs, K0, b, _, rfl, Same.refl K0, ow1, rfl, hrows, Nat.le_add_right _ _, rfl⟩, ?_⟩
    rintro m σ H1 ⟨j, rfl, hj1, hj2, K1, b1, p1, rfl, gg, ow2, st2, ri2, rl2, th2⟩
    obtain ⟨sv2, rv2, k1, k2, sp2⟩ := ow2.ex
    have l8 := (ow.fb.ok.ok.ok c.line hl).s8
    have hh := Same.tup (Same.tr gg sp2.ext) h6
    have hpr2 := sp2.c5
    rw [th2] at q
    rcases Nat.lt_or_ge j c.line.steps.length with hj | hj
    · have hstj : c.line.steps[j]? = some c.line.steps[j] := List.getElem?_eq_getElem hj
      have hsok := ow.fb.ok.all c.line hl _ (List.mem_of_getElem? hstj)
      obtain ⟨x, hx, hx2⟩ := pgetr h7 hstj
      have hx1 := StepAt.up gg hx2
      have htst : decide ((j : Int) < (hs1.length : Nat)) = true := decide_eq_true (by omega)
      refine ⟨_, rfl, _, rfl, _, _, rfl, .inr hh, _, _, rfl, rfl, true, congrArg V.bl htst, iteT ?_⟩
      refine ⟨_, rfl, P.pr, P.dp, _, rfl, hpr2, rfl, _, rfl, _, rfl, _, _, _, _, rfl, rfl, hh, atIn hx, A, P, S, K1, b1, p1, M, x, _, rfl, ow2, StepAt.up sp2.ext hx1, hsok, _, rfl, ?_⟩
      cases est : takesNo b1 c.line.steps[j] with
      | true =>
        refine iteT ⟨fun σ' H' => ∃ K' b' p', σ' = [some (.ref P.pr), some (.str c.line.name), some (.int ((j + 1) : Nat)), some (.int c.ticks), some (.int c.kept), some (.ref g1)] ∧ Same K0 K' ∧ Own K A P S K' H' b' p' M ∧ p'.stack = rest ∧ RowsIn S.ws p'.rows ∧ p'.rows.length ≤ p.rows.length + (j + 1 - c.step) ∧ thru S.ws (c.line.steps.drop c.step) c.step b { p with stack := rest } = thru S.ws (c.line.steps.drop (j + 1)) (j + 1) b' p', ?_, ?_⟩
        · rintro σ' H' ⟨K', b', p', e1, e2, e3, e4, e5, e6, e7⟩
          exact ⟨c.line.steps.length - (j + 1), by omega, j + 1, rfl, by omega, by omega, K', b', p', e1, e2, e3, e4, e5, e6, e7⟩
        · refine ⟨_, rfl, P.pr, P.dp, _, rfl, hpr2, rfl, _, rfl, _, rfl, _, _, _, _, rfl, rfl, hh, atIn hx, A, P, S, K1, b1, p1, M, x, _, rfl, hx1, hsok, est, ow2, ri2, (show p1.rows.length ≤ 4000 by omega), fun K2 H2 g2 ow3 => ?_⟩
          have z := actP_len (ws := S.ws) (p := p1) (st := c.line.steps[j])
          exact ⟨_, rfl, _, _, rfl, rfl, K2, _, _, by simp, Same.tr gg g2, ow3, by rw [actP_stack]; exact st2, actP_in ri2 hsok, by omega, by rw [th2, thru_step hstj est]⟩
      | false =>
        rw [thru_stop hstj est] at q
        simp only [hj, if_true] at q
        refine iteF ?_
        refine ⟨_, rfl, _, rfl, _, _, rfl, .inr hh, _, _, rfl, rfl, true, congrArg V.bl htst, iteT ?_⟩
        refine ⟨_, rfl, _, _, _, _, _, rfl, hpr2, T.cl_Processor, T.t_Processor_stack, rfl, .inl ⟨rfl, _, .inl (.inl sp2.c6)⟩, _, rfl, _, rfl, _, rfl, _, rfl, small8 (by simp), fun t2 ht2 => ?_⟩
        have sp3 := sp2.keep (o := .tup [.str c.line.name, .int (j : Nat), .int c.ticks, .int c.kept]) ht2
        have g3 := sp2.newk (o := .tup [.str c.line.name, .int (j : Nat), .int c.ticks, .int c.kept]) ht2
        refine ⟨_, _, _, rfl, rfl, sp3.c6, sml (m := 4000) (by have hk := k1.length; rw [st2] at hk; rw [hst] at hsl; simp at hsl; omega) (by decide), ?_⟩
        have sp4 := sp3.put6 (y := .lst (sv2 ++ [.ref t2]))
        refine ⟨Nat.zero_le _, fun a hp => ?_⟩
        have sp5 := sp4.keep (o := .lst []) hp
        have g5 := sp4.newk (o := .lst []) hp
        have g35 := Same.tr g3 g5
        exact q _ _ a [] (Same.tr gg g35) (ow2.mk2 g35 ow2.fl ⟨sv2 ++ [V.ref t2], rv2, Paired.snoc (k1.mono fun _ _ z => CallAt.up g35 z) ⟨t2, rfl, t_of (g5 _ _ upd_same)⟩, k2.mono fun _ _ z => RowAt.up g35 z, sp5⟩) upd_same .nil
    · rw [thru_end hj] at q
      simp only [Nat.not_lt.mpr hj, if_false] at q
      have htst : decide ((j : Int) < (hs1.length : Nat)) = false := decide_eq_false (by omega)
      refine ⟨_, rfl, _, rfl, _, _, rfl, .inr hh, _, _, rfl, rfl, false, congrArg V.bl htst, iteF ?_⟩
      refine ⟨_, rfl, _, rfl, _, _, rfl, .inr hh, _, _, rfl, rfl, false, congrArg V.bl htst, iteF ?_⟩
      refine ⟨_, rfl, _, rfl, _, _, _, _, rfl, hpr2, T.cl_Processor, T.t_Processor_bar, (by simp), ?_⟩
      have sp3 := sp2.put5 (y := prI K A P c.kept)
      have hbo := sp3.ext _ _ ow2.fb.at_
      have hpr3 := sp3.c5
      refine ⟨_, rfl, _, _, _, _, _, rfl, hpr3, T.cl_Processor, T.t_Processor_board, rfl, A.bo, A.db, _, rfl, hbo, rfl, _, rfl, A, S, c.line, K1, b1, _, rfl, ⟨ow2.fb, ow2.fl, sp3⟩, hl, fun H2 ow5 => ?_⟩
      have sp5 := ow5.sp
      refine ⟨_, rfl, small8 (by simp), fun t2 ht2 => ?_⟩
      have sp6 := sp5.keep (o := .tup [.str "end", .str c.line.name]) ht2
      have g6 := sp5.newk (o := .tup [.str "end", .str c.line.name]) ht2
      refine ⟨small8 (by simp), fun a hp => ?_⟩
      have sp7 := sp6.keep (o := .lst [.ref t2]) hp
      have g7 := sp6.newk (o := .lst [.ref t2]) hp
      have g67 := Same.tr g6 g7
      exact q _ _ a [.ref t2] (Same.tr gg g67) (ow2.mk2 (b' := endB b1 c.line) (p' := { p1 with bar := c.kept }) g67 ow2.fl ⟨sv2, rv2, k1.mono fun _ _ z => CallAt.up g67 z, k2.mono fun _ _ z => RowAt.up g67 z, sp7⟩) upd_same (.cons ⟨t2, rfl, t_of (g7 _ _ upd_same)⟩ .nil)
end
end Cb

/-! what going through, going on, spending keep -/
namespace Cb
open PySem PySem.Spec PyProof.Rows L2
structure ThruOk (S : SetD) (l : List SD) (j : Nat) (b : BdD) (p : PrD) (z : Nat × BdD × PrD) : Prop where
  lo : j ≤ z.1
  hi : z.1 ≤ l.length
  st : z.2.2.stack = p.stack
  ri : RowsIn S.ws z.2.2.rows
  rl : z.2.2.rows.length ≤ p.rows.length + (z.1 - j)
  fl : z.2.1.fl.length = b.fl.length
  at_ : z.1 < l.length → ∃ st, l[z.1]? = some st ∧ takesNo z.2.1 st = false
theorem thru_ok {S : SetD} {l : List SD} (ok : ∀ st ∈ l, StepOk S.ls S.ws st) : ∀ (k j : Nat) (b : BdD) (p : PrD), l.length - j = k → j ≤ l.length → RowsIn S.ws p.rows → ThruOk S l j b p (thru S.ws (l.drop j) j b p)
  | 0, j, b, p, hk, hj, ri => by
    rw [thru_end (by omega)]
    exact ⟨Nat.le_refl _, hj, rfl, ri, Nat.le_add_right _ _, rfl, fun h => absurd h (by simp only; omega)⟩
  | k + 1, j, b, p, hk, hj, ri => by
    have hlt : j < l.length := by omega
    have hst : l[j]? = some l[j] := List.getElem?_eq_getElem hlt
    have so := ok _ (List.mem_of_getElem? hst)
    cases e : takesNo b l[j] with
    | true =>
      rw [thru_step hst e]
      have ih := thru_ok ok k (j + 1) (actB b l[j]) (actP S.ws p l[j]) (by omega) (by omega) (actP_in ri so)
      have z := actP_len (ws := S.ws) (p := p) (st := l[j])
      have z2 := ih.rl
      have z3 := ih.lo
      exact ⟨by omega, ih.hi, ih.st.trans actP_stack, ih.ri, by omega, ih.fl.trans actB_len, ih.at_⟩
    | false =>
      rw [thru_stop hst e]
      exact ⟨Nat.le_refl _, hj, rfl, ri, Nat.le_add_right _ _, rfl, fun _ => ⟨_, hst, e⟩⟩
structure GoOk (S : SetD) (b : BdD) (p : PrD) (r : List CallD) (z : BdD × PrD × List Ev) : Prop where
  calls : ∀ c ∈ z.2.1.stack, CallOk S c
  ri : RowsIn S.ws z.2.1.rows
  rl : z.2.1.rows.length ≤ p.rows.length + 8
  fl : z.1.fl.length = b.fl.length
  sl : (z.2.1.stack = r ∧ z.2.2.length = 1) ∨ (passes z.1 z.2.1 = false ∧ z.2.2 = [] ∧ z.2.1.stack.length = r.length + 1)
theorem goA_ok {S : SetD} {b : BdD} {p : PrD} {r : List CallD} {c : CallD} (ok : SetOk S) (h : p.stack = r ++ [c]) (hl : c.line ∈ S.ls) (hs : c.step ≤ c.line.steps.length) (ht : c.ticks = 0) (hr : ∀ c' ∈ r, CallOk S c') (ri : RowsIn S.ws p.rows) : GoOk S b p r (goA S.ws b p) := by
  have T := thru_ok (S := S) (l := c.line.steps) (fun st m => ok.all c.line hl st m) _ c.step b { p with stack := r } rfl hs ri
  have l8 := (ok.ok.ok c.line hl).s8
  rw [goA_snoc h]
  generalize thru S.ws (c.line.steps.drop c.step) c.step b { p with stack := r } = z at T
  obtain ⟨lo, hi, st, ri', rl, fl, at_⟩ := T
  have st : z.2.2.stack = r := st
  have rl : z.2.2.rows.length ≤ p.rows.length + (z.1 - c.step) := rl
  simp only
  by_cases hz : z.1 < c.line.steps.length
  · simp only [hz, if_true]
    obtain ⟨sd, h1, h2⟩ := at_ hz
    have so := ok.all c.line hl sd (List.mem_of_getElem? h1)
    have hc : CallOk S ⟨c.line, z.1, c.ticks, c.kept⟩ := ⟨hl, by
      cases sd with
      | run n => exact .inl ⟨n, h1, by simp only; omega, by have := so.1; simp only; omega⟩
      | await f => exact .inr ⟨f, h1, ht⟩
      | _ => cases h2⟩
    refine ⟨fun c' m => ?_, ri', by simp only; omega, fl, .inr ⟨?_, rfl, by simp [st]⟩⟩
    · simp only [st, List.mem_append, List.mem_singleton] at m
      rcases m with m | m
      · exact hr c' m
      · rw [m]
        exact hc
    · rw [passes_snoc (r := z.2.2.stack) (c := ⟨c.line, z.1, c.ticks, c.kept⟩) (st := sd) rfl h1]
      cases sd with
      | await f => exact h2
      | _ => rfl
  · simp only [hz, if_false]
    exact ⟨fun c' m => hr c' (st ▸ m), ri', by simp only; omega, fl, .inl ⟨st, rfl⟩⟩
end Cb

namespace Cb
open PySem PySem.Spec PyProof.Rows L2

theorem spendA_nil {ws : List WorkD} {b : BdD} {p : PrD} (h : p.stack = []) : spendA ws b p = match p.rows with
    | [] => (b, { p with c3 := p.c3 + 1 }, [])
    | (n, t) :: r => if t + 1 < lenOf ws n then (b, { p with c2 := p.c2 + 1, rows := (n, t + 1) :: r }, []) else (b, { p with c2 := p.c2 + 1, rows := r }, [.dne n]) := by
  unfold spendA
  rw [h]
  rfl
theorem spendA_await {ws : List WorkD} {b : BdD} {p : PrD} {r : List CallD} {c : CallD} {f : Nat} (h : p.stack = r ++ [c]) (e : stepOf c = some (.await f)) : spendA ws b p = (b, { p with c1 := p.c1 + 1 }, []) := by
  unfold spendA
  rw [h, last_snoc]
  simp only [e]
theorem spendA_run {ws : List WorkD} {b : BdD} {p : PrD} {r : List CallD} {c : CallD} {n : Int} (h : p.stack = r ++ [c]) (e : stepOf c = some (.run n)) : spendA ws b p = if c.ticks + 1 < n then (b, { p with c0 := p.c0 + 1, stack := r ++ [⟨c.line, c.step, c.ticks + 1, c.kept⟩] }, []) else goA ws b { p with c0 := p.c0 + 1, stack := r ++ [⟨c.line, c.step + 1, 0, c.kept⟩] } := by
  unfold spendA
  rw [h, last_snoc]
  simp only [e, List.dropLast_concat]
def sp_Processor_spend_beside_calls (K : PySem.W.Frag) : Sp := fun vs H Q _ => ∃ (A : AdB) (P : AdP) (S : SetD) (K0 : Hp) (b : BdD) (p : PrD) (M : List (Addr × HO)), vs = [.ref P.pr] ∧ Own K A P S K0 H b p M ∧ p.stack = [] ∧ RowsIn S.ws p.rows ∧ p.rows.length ≤ 3900 ∧
  PostE K A P S K0 M Q (spendA S.ws b p)
def sp_Processor_spend (K : PySem.W.Frag) : Sp := fun vs H Q _ => ∃ (A : AdB) (P : AdP) (S : SetD) (K0 : Hp) (b : BdD) (p : PrD) (M : List (Addr × HO)), vs = [.ref P.pr] ∧ Own K A P S K0 H b p M ∧ (∀ c ∈ p.stack, CallOk S c) ∧ RowsIn S.ws p.rows ∧ p.rows.length ≤ 3900 ∧ p.stack.length ≤ 3900 ∧
  PostE K A P S K0 M Q (spendA S.ws b p)

section
variable {P : Program} {w : World} {K : PySem.W.Frag} {mg : Str → Option Value} {base : Heap}

abbrev N_Processor_spend_beside_calls : List Str := ["self", "work"]
theorem sc_Processor_spend_beside_calls : FnScope N_Processor_spend_beside_calls ["self"] (C8.fnScope s_Processor_spend_beside_calls) := C8.fnScope_by (by decide +kernel)
theorem ok_Processor_spend_beside_calls {fd : FuncData} (T : Txt K mg) (F : FunD K "_spend_beside_calls" "Processor._spend_beside_calls" (C8.fnArgs s_Processor_spend_beside_calls) (C8.fnBody s_Processor_spend_beside_calls) (C8.fnScope s_Processor_spend_beside_calls) [] [] (He.ma K (aC "Processor" K) "_spend_beside_calls") fd) (c_is_empty : C8.Met P w K mg base 1 (aC "WorkQueue" K) "is_empty" (sp_WorkQueue_is_empty K) []) (c_jspend : C8.Met P w K mg base 1 (aC "WorkQueue" K) "spend" (sp_WorkQueue_spend K) []) :
    C8.Met P w K mg base 2 (aC "Processor" K) "_spend_beside_calls" (sp_Processor_spend_beside_calls K) [] := by
  refine C8.met0 T.cl_Processor T.m_Processor_spend_beside_calls (fun_c8 F) (F.bindsN fun _ _ _ _ _ _ us hl => match us, hl with | [_], _ => rfl) sc_Processor_spend_beside_calls (fun vs H Q E h => ?_) (fun cdv A outer s H vs Q E hr h => ?_)
  · obtain ⟨_, _, _, _, _, _, _, rfl, _⟩ := h
    rfl
  · have nd := sc_Processor_spend_beside_calls.nd
    have hu := hu_of hr
    obtain ⟨A, P, S, K0, b, p, M, rfl, ow, hst, ri, hrl, q⟩ := h
    refine ⟨_, (pss_cons (ps_if (pt_val (C8.pe_mt0 c_is_empty hr (by decide) (pe_fld (pv 0) rfl))) (pss_cons (ps_augS (pe_fld (pv 0) rfl) (C8.pe_gc rfl T.k_IDLE) get_list pe_int ip_add set_list)
      (pss_one (ps_ret (pe_lst pa_nil)))) pss_nil)
      (pss_cons (ps_augS (pe_fld (pv 0) rfl) (C8.pe_gc rfl T.k_WORKED) get_list pe_int ip_add set_list)
      (pss_cons (ps_set (i := 1) nd rfl (Or.inl rfl) (C8.pe_mt0 c_jspend hr (by decide) (pe_fld (pv 0) rfl)))
      (pss_one (ps_ret (pe_ifExp (pt_cmpR op_isN (pv 1) pe_non (nomark _)) (pe_lst pa_nil) (pe_lst (pa_cons (pe_tup (pa_cons pe_str (pa_cons (pv 1) pa_nil))) pa_nil)))))))), ?_⟩
    obtain ⟨sv, rv, h1, h2, sp⟩ := ow.ex
    have hpr := sp.c5
    obtain ⟨dj, rk, ln, j1, _⟩ := (JobsAt.up sp.ext ow.fj).ex
    rw [spendA_nil hst] at q
    refine ⟨_, rfl, _, _, _, _, _, rfl, hpr, T.cl_Processor, T.t_Processor_jobs, rfl, P.jo, dj, _, rfl, j1, rfl, P.jo, P.ro, S.ws, rv, rfl, JobsAt.up sp.ext ow.fj, sp.c7, rv.isEmpty, rfl, ?_⟩
    cases hrv : p.rows with
    | nil =>
      have h2' := h2
      rw [hrv] at h2' q
      cases h2'
      refine iteT ?_
      refine ⟨_, rfl, _, _, _, _, _, rfl, hpr, T.cl_Processor, T.t_Processor_counts, rfl, _, _, 3, _, rfl, rfl, l_of sp.c8, rfl, _, _, rfl, rfl, ?_⟩
      refine ⟨_, _, _, 3, rfl, rfl, sp.c8, rfl, ?_⟩
      have sp1 := sp.put8 (y := .lst [.int p.c0, .int p.c1, .int p.c2, .int (p.c3 + 1)])
      refine ⟨Nat.zero_le _, fun a hp => ?_⟩
      have sp2 := sp1.keep (o := .lst []) hp
      have g := sp1.newk (o := .lst []) hp
      exact q _ _ a [] g (ow.mk2 g ow.fl ⟨sv, [], h1.mono fun _ _ z => CallAt.up g z, .nil, sp2⟩) upd_same .nil
    | cons r rows =>
      obtain ⟨n, t⟩ := r
      have h2' := h2
      rw [hrv] at h2' ri hrl q
      simp only at q
      have hne : rv.isEmpty = false := by cases h2' with | cons _ _ => rfl
      rw [hne]
      refine iteF ?_
      refine ⟨_, rfl, _, _, _, _, _, rfl, hpr, T.cl_Processor, T.t_Processor_counts, rfl, _, _, 2, _, rfl, rfl, l_of sp.c8, rfl, _, _, rfl, rfl, ?_⟩
      refine ⟨_, _, _, 2, rfl, rfl, sp.c8, rfl, ?_⟩
      have sp1 := sp.put8 (y := .lst [.int p.c0, .int p.c1, .int (p.c2 + 1), .int p.c3])
      have hpr1 := sp1.c5
      obtain ⟨dj1, rk1, ln1, j11, _⟩ := (JobsAt.up sp1.ext ow.fj).ex
      refine ⟨_, rfl, _, _, _, _, _, rfl, hpr1, T.cl_Processor, T.t_Processor_jobs, rfl, P.jo, dj1, _, rfl, j11, rfl, P.jo, P.ro, S.ws, rv, n, t, rows, K0, _, rfl, ow.fj, ri, h2', by simp at hrl; omega, sp1.up7, fun hlt K1 H1 rv1 g1 hp1 sp2 => ?_, fun hlt H1 rv1 hp1 sp2 => ?_⟩
      · simp only [hlt, if_true] at q
        refine ⟨_, rfl, rfl, true, rfl, iteT ⟨Nat.zero_le _, fun a hp => ?_⟩⟩
        have sp3 := sp2.dn7.keep (o := .lst []) hp
        have g2 := sp2.dn7.newk (o := .lst []) hp
        have g := Same.tr g1 g2
        exact q _ _ a [] g (ow.mk2 (p' := { p with c2 := p.c2 + 1, rows := (n, t + 1) :: rows }) g ow.fl ⟨sv, rv1, h1.mono fun _ _ z => CallAt.up g z, hp1.mono fun _ _ z => RowAt.up g2 z, sp3⟩) upd_same .nil
      · simp only [hlt, if_false] at q
        refine ⟨_, rfl, rfl, false, rfl, iteF ⟨_, rfl, small8 (by simp), fun t2 ht2 => ?_⟩⟩
        have sp3 := sp2.dn7.keep (o := .tup [.str "done", .str n]) ht2
        have g2 := sp2.dn7.newk (o := .tup [.str "done", .str n]) ht2
        refine ⟨small8 (by simp), fun a hp => ?_⟩
        have sp4 := sp3.keep (o := .lst [.ref t2]) hp
        have g3 := sp3.newk (o := .lst [.ref t2]) hp
        have g := Same.tr g2 g3
        exact q _ _ a [.ref t2] g (ow.mk2 (p' := { p with c2 := p.c2 + 1, rows := rows }) g ow.fl ⟨sv, rv1, h1.mono fun _ _ z => CallAt.up g z, hp1.mono fun _ _ z => RowAt.up g z, sp4⟩) upd_same (.cons ⟨t2, rfl, t_of (g3 _ _ upd_same)⟩ .nil)
abbrev N_Processor_spend : List Str := ["self", "line", "step", "ticks", "kept", "word", "what"]
theorem sc_Processor_spend : FnScope N_Processor_spend ["self"] (C8.fnScope s_Processor_spend) := C8.fnScope_by (by decide +kernel)
theorem ok_Processor_spend {fd : FuncData} (T : Txt K mg) (F : FunD K "_spend" "Processor._spend" (C8.fnArgs s_Processor_spend) (C8.fnBody s_Processor_spend) (C8.fnScope s_Processor_spend) [] [] (He.ma K (aC "Processor" K) "_spend") fd) (c_spend_beside_calls : C8.Met P w K mg base 2 (aC "Processor" K) "_spend_beside_calls" (sp_Processor_spend_beside_calls K) []) (c_present_step : C8.Met P w K mg base 4 (aC "Processor" K) "_present_step" (sp_Processor_present_step K) []) (c_go_through : C8.Met P w K mg base 8 (aC "Processor" K) "_go_through" (sp_Processor_go_through K) []) :
    C8.Met P w K mg base 9 (aC "Processor" K) "_spend" (sp_Processor_spend K) [] := by
  refine C8.met0 T.cl_Processor T.m_Processor_spend (fun_c8 F) (F.bindsN fun _ _ _ _ _ _ us hl => match us, hl with | [_], _ => rfl) sc_Processor_spend (fun vs H Q E h => ?_) (fun cdv A outer s H vs Q E hr h => ?_)
  · obtain ⟨_, _, _, _, _, _, _, rfl, _⟩ := h
    rfl
  · have nd := sc_Processor_spend.nd
    have hu := hu_of hr
    obtain ⟨A, P, S, K0, b, p, M, rfl, ow, hcs, ri, hrl, hsl, q⟩ := h
    refine ⟨_, (pss_cons (ps_if (pt_not (pt_truth (pe_fld (pv 0) rfl) (by intro _; rfl))) (pss_one (ps_ret (C8.pe_mt0 c_spend_beside_calls hr (by decide) (pv 0)))) pss_nil)
      (pss_cons (ps_asg (pe_ix ix_list (pe_fld (pv 0) rfl) (pe_un un_neg pe_int) (fun _ _ => rfl)) (pg_tup rfl (pgs_cons (pg_name (i := 1) nd rfl (Or.inl rfl)) (pgs_cons (pg_name (i := 2) nd rfl (Or.inl rfl)) (pgs_cons (pg_name (i := 3) nd rfl (Or.inl rfl)) (pgs_cons (pg_name (i := 4) nd rfl (Or.inl rfl)) pgs_nil))))))
      (pss_cons (ps_asg (C8.pe_mt0 c_present_step hr (by decide) (pv 0)) (pg_tup rfl (pgs_cons (pg_name (i := 5) nd rfl (Or.inl rfl)) (pgs_cons (pg_name (i := 6) nd rfl (Or.inl rfl)) pgs_nil))))
      (pss_cons (ps_if (pt_cmpR op_eq (pv 5) pe_str (nomark _)) (pss_cons (ps_augS (pe_fld (pv 0) rfl) (C8.pe_gc rfl T.k_SPUN) get_list pe_int ip_add set_list)
      (pss_one (ps_ret (pe_lst pa_nil)))) pss_nil)
      (pss_cons (ps_augS (pe_fld (pv 0) rfl) (C8.pe_gc rfl T.k_CALLED) get_list pe_int ip_add set_list)
      (pss_cons (ps_if (pt_cmpR op_lt (pe_op op_add (pv 3) pe_int) (pv 6) (nomark _)) (pss_cons (ps_asg (pe_tup (pa_cons (pv 1) (pa_cons (pv 2) (pa_cons (pe_op op_add (pv 3) pe_int) (pa_cons (pv 4) pa_nil))))) (pg_sub (pe_fld (pv 0) rfl) (pe_un un_neg pe_int) set_list))
      (pss_one (ps_ret (pe_lst pa_nil)))) pss_nil)
      (pss_cons (ps_asg (pe_tup (pa_cons (pv 1) (pa_cons (pe_op op_add (pv 2) pe_int) (pa_cons pe_int (pa_cons (pv 4) pa_nil))))) (pg_sub (pe_fld (pv 0) rfl) (pe_un un_neg pe_int) set_list))
      (pss_one (ps_ret (C8.pe_mt0 c_go_through hr (by decide) (pv 0))))))))))), ?_⟩
    obtain ⟨sv, rv, h1, h2, sp⟩ := ow.ex
    have hpr := sp.c5
    rcases List.eq_nil_or_concat p.stack with e1 | ⟨rest, c, e1⟩
    · have h1' := h1
      rw [e1] at h1'
      cases h1'
      refine ⟨_, rfl, _, _, _, _, _, rfl, hpr, T.cl_Processor, T.t_Processor_stack, rfl, false, .inl ⟨_, l_of sp.c6, rfl⟩, iteT ?_⟩
      exact ⟨_, rfl, P.pr, P.dp, _, rfl, hpr, rfl, A, P, S, K0, b, p, M, rfl, ow, e1, ri, hrl, q⟩
    rw [List.concat_eq_append] at e1
    have h1' := h1
    rw [e1] at h1'
    obtain ⟨sv', v, e2, h4, t, rfl, ht⟩ := psnoc h1'
    have hco := hcs c (by rw [e1]; simp)
    have hc3 := sp.c6
    rw [e2] at hc3
    refine ⟨_, rfl, _, _, _, _, _, rfl, hpr, T.cl_Processor, T.t_Processor_stack, rfl, true, .inl ⟨_, l_of hc3, by simp⟩, iteF ?_⟩
    refine ⟨_, rfl, _, _, _, _, _, rfl, hpr, T.cl_Processor, T.t_Processor_stack, rfl, _, rfl, _, _, _, _, rfl, rfl, l_of hc3, atIm, ?_⟩
    refine ⟨_, _, rfl, Same.tup sp.ext ht, rfl, _, _, rfl, _, _, rfl, _, _, rfl, _, _, rfl, rfl, ?_⟩
    rcases hco.st with ⟨n, hn, hn0, hn1⟩ | ⟨f, hf, hz⟩
    · rw [spendA_run e1 hn] at q
      refine ⟨_, rfl, P.pr, P.dp, _, rfl, hpr, rfl, A, P, S, K0, b, p, M, rest, c, .run n, rfl, ow, e1, hco.ln, hn, fun v H1 g1 hv => ?_⟩
      obtain ⟨a, rfl, ha⟩ := hv
      have sp1 := sp.grow g1
      have hpr1 := sp1.c5
      have hc31 := g1 _ _ hc3
      refine ⟨_, _, rfl, Same.tup sp1.ext ha, rfl, _, _, rfl, _, _, rfl, rfl, ?_⟩
      refine ⟨_, rfl, rfl, false, rfl, iteF ?_⟩
      refine ⟨_, rfl, _, _, _, _, _, rfl, hpr1, T.cl_Processor, T.t_Processor_counts, rfl, _, _, 0, _, rfl, rfl, l_of sp1.c8, rfl, _, _, rfl, rfl, ?_⟩
      refine ⟨_, _, _, 0, rfl, rfl, sp1.c8, rfl, ?_⟩
      have sp2 := sp1.put8 (y := .lst [.int (p.c0 + 1), .int p.c1, .int p.c2, .int p.c3])
      have hpr2 := sp2.c5
      refine ⟨_, rfl, _, _, rfl, rfl, _, rfl, _, _, rfl, rfl, decide (c.ticks + 1 < n), rfl, ?_⟩
      by_cases hlt : c.ticks + 1 < n
      · rw [decide_eq_true hlt]
        simp only [hlt, if_true] at q
        refine iteT ⟨_, rfl, _, rfl, _, rfl, _, _, rfl, rfl, _, rfl, small8 (by simp), fun t2 ht2 => ?_⟩
        have sp3 := sp2.keep (o := .tup [.str c.line.name, .int (c.step : Nat), .int (c.ticks + 1), .int c.kept]) ht2
        have g3 := sp2.newk (o := .tup [.str c.line.name, .int (c.step : Nat), .int (c.ticks + 1), .int c.kept]) ht2
        have hpr3 := sp3.c5
        have hc33 := sp3.c6
        rw [e2] at hc33
        refine ⟨_, rfl, _, _, _, _, _, rfl, hpr3, T.cl_Processor, T.t_Processor_stack, rfl, _, rfl, _, _, _, _, rfl, rfl, hc33, ixNm, ?_⟩
        rw [set_last]
        have sp4 := sp3.put6 (y := .lst (sv' ++ [V.ref t2]))
        refine ⟨Nat.zero_le _, fun a hp => ?_⟩
        have sp5 := sp4.keep (o := .lst []) hp
        have g5 := sp4.newk (o := .lst []) hp
        have g := Same.tr g3 g5
        exact q _ _ a [] g (ow.mk2 (b' := b) (p' := { p with c0 := p.c0 + 1, stack := rest ++ [⟨c.line, c.step, c.ticks + 1, c.kept⟩] }) g ow.fl ⟨sv' ++ [V.ref t2], rv, Paired.snoc (h4.mono fun _ _ z => CallAt.up g z) ⟨t2, rfl, t_of (g5 _ _ upd_same)⟩, h2.mono fun _ _ z => RowAt.up g z, sp5⟩) upd_same .nil
      · rw [decide_eq_false hlt]
        simp only [hlt, if_false] at q
        refine iteF ?_
        refine ⟨_, rfl, _, rfl, _, _, rfl, rfl, _, rfl, small8 (by simp), fun t2 ht2 => ?_⟩
        have sp3 := sp2.keep (o := .tup [.str c.line.name, .int ((c.step + 1 : Nat)), .int 0, .int c.kept]) ht2
        have g3 := sp2.newk (o := .tup [.str c.line.name, .int ((c.step + 1 : Nat)), .int 0, .int c.kept]) ht2
        have hpr3 := sp3.c5
        have hc33 := sp3.c6
        rw [e2] at hc33
        refine ⟨_, rfl, _, _, _, _, _, rfl, hpr3, T.cl_Processor, T.t_Processor_stack, rfl, _, rfl, _, _, _, _, rfl, rfl, hc33, ixNm, ?_⟩
        rw [set_last]
        have sp4 := sp3.put6 (y := .lst (sv' ++ [V.ref t2]))
        have hpr4 := sp4.c5
        have ow4 : Own K A P S _ _ b { p with c0 := p.c0 + 1, stack := rest ++ [⟨c.line, c.step + 1, 0, c.kept⟩] } M := ow.mk2 g3 ow.fl ⟨sv' ++ [V.ref t2], rv, Paired.snoc (h4.mono fun _ _ z => CallAt.up g3 z) ⟨t2, rfl, t_of upd_same⟩, h2.mono fun _ _ z => RowAt.up g3 z, sp4⟩
        have hlt2 : c.step < c.line.steps.length := (List.getElem?_eq_some_iff.mp hn).1
        refine ⟨_, rfl, P.pr, P.dp, _, rfl, hpr4, rfl, A, P, S, _, b, _, M, rest, ⟨c.line, c.step + 1, 0, c.kept⟩, rfl, ow4, rfl, hco.ln, hlt2, ri, hrl, ?_, fun K1 H1 a ev g ow5 hp he => q K1 H1 a ev (Same.tr g3 g) ow5 hp he⟩
        rw [e1] at hsl
        simpa using hsl
    · rw [spendA_await e1 hf] at q
      refine ⟨_, rfl, P.pr, P.dp, _, rfl, hpr, rfl, A, P, S, K0, b, p, M, rest, c, .await f, rfl, ow, e1, hco.ln, hf, fun v H1 g1 hv => ?_⟩
      obtain ⟨a, rfl, ha⟩ := hv
      have sp1 := sp.grow g1
      have hpr1 := sp1.c5
      refine ⟨_, _, rfl, Same.tup sp1.ext ha, rfl, _, _, rfl, _, _, rfl, rfl, ?_⟩
      refine ⟨_, rfl, rfl, true, rfl, iteT ?_⟩
      refine ⟨_, rfl, _, _, _, _, _, rfl, hpr1, T.cl_Processor, T.t_Processor_counts, rfl, _, _, 1, _, rfl, rfl, l_of sp1.c8, rfl, _, _, rfl, rfl, ?_⟩
      refine ⟨_, _, _, 1, rfl, rfl, sp1.c8, rfl, ?_⟩
      have sp2 := sp1.put8 (y := .lst [.int p.c0, .int (p.c1 + 1), .int p.c2, .int p.c3])
      refine ⟨Nat.zero_le _, fun a hp => ?_⟩
      have sp3 := sp2.keep (o := .lst []) hp
      have g := sp2.newk (o := .lst []) hp
      exact q _ _ a [] g (ow.mk2 (b' := b) (p' := { p with c1 := p.c1 + 1 }) g ow.fl ⟨sv, rv, h1.mono fun _ _ z => CallAt.up g z, h2.mono fun _ _ z => RowAt.up g z, sp3⟩) upd_same .nil
end
end Cb

namespace Cb
open PySem PySem.Spec PyProof.Rows L2

theorem onA_no {ws : List WorkD} {b : BdD} {p : PrD} (h : passes b p = false) : ∀ n, onA ws n b p = (b, p, [])
  | 0 => rfl
  | n + 1 => by
    rw [onA, h]
    rfl
theorem onA_yes {ws : List WorkD} {b : BdD} {p : PrD} {n : Nat} (h : passes b p = true) : onA ws (n + 1) b p = ((onA ws n (goA ws b p).1 (goA ws b p).2.1).1, (onA ws n (goA ws b p).1 (goA ws b p).2.1).2.1, (goA ws b p).2.2 ++ (onA ws n (goA ws b p).1 (goA ws b p).2.1).2.2) := by
  rw [onA, if_pos h]
theorem passes_top {b : BdD} {p : PrD} (h : passes b p = true) : ∃ r c f, p.stack = r ++ [c] ∧ stepOf c = some (.await f) := by
  rcases List.eq_nil_or_concat p.stack with e1 | ⟨r, c, e1⟩
  · rw [passes_nil e1] at h
    cases h
  · rw [List.concat_eq_append] at e1
    cases e : stepOf c with
    | none =>
      unfold passes at h
      rw [e1, last_snoc] at h
      simp only [e] at h
      cases h
    | some st =>
      rw [passes_snoc e1 e] at h
      cases st with
      | await f => exact ⟨r, c, f, e1, e⟩
      | _ => cases h
def goOn (ws : List WorkD) (b : BdD) (p : PrD) : BdD × PrD × List Ev :=
  let y := onA ws p.stack.length b p
  let x := spendA ws y.1 y.2.1
  (x.1, x.2.1, y.2.2 ++ x.2.2)
def sp_Processor_go_on (K : PySem.W.Frag) : Sp := fun vs H Q _ => ∃ (A : AdB) (P : AdP) (S : SetD) (K0 : Hp) (b : BdD) (p : PrD) (M : List (Addr × HO)), vs = [.ref P.pr] ∧ Own K A P S K0 H b p M ∧ (∀ c ∈ p.stack, CallOk S c) ∧ RowsIn S.ws p.rows ∧ p.rows.length ≤ 3700 ∧ p.stack.length ≤ 13 ∧
  PostE K A P S K0 M Q (goOn S.ws b p)
def sp_Processor_take (K : PySem.W.Frag) : Sp := fun vs H Q _ => ∃ (A : AdB) (P : AdP) (S : SetD) (K0 : Hp) (b : BdD) (p : PrD) (M : List (Addr × HO)) (lp : Addr) (ls : List LineD), vs = [.ref P.pr, .ref lp] ∧ Own K A P S K0 H b p M ∧ (∀ c ∈ p.stack, CallOk S c) ∧ RowsIn S.ws p.rows ∧ p.rows.length ≤ 3800 ∧ p.stack.length ≤ 3800 ∧ K0 lp = some (.lst (nmsV ls)) ∧ (∀ l ∈ ls, l ∈ S.ls) ∧
  ∀ K1 H' a ev, Same K0 K1 → Own K A P S K1 H' (takeA S.ws b p ls).1 (takeA S.ws b p ls).2.1 ((a, .lst ev) :: M) → Paired (EvAt K K1) ev (takeA S.ws b p ls).2.2 → Q (.ref a) H'
theorem spendA_evs {ws : List WorkD} {b : BdD} {p : PrD} : (spendA ws b p).2.2.length ≤ 1 := by
  have g : ∀ (b : BdD) (p : PrD), (goA ws b p).2.2.length ≤ 1 := fun b p => by
    unfold goA
    split
    · simp
    · simp only
      split <;> simp
  unfold spendA
  split
  · split
    · simp
    · split <;> simp
  · split
    · simp
    · split
      · simp
      · exact g _ _
    · simp

section
variable {P : Program} {w : World} {K : PySem.W.Frag} {mg : Str → Option Value} {base : Heap}

abbrev N_Processor_go_on : List Str := ["self", "events"]
theorem sc_Processor_go_on : FnScope N_Processor_go_on ["self"] (C8.fnScope s_Processor_go_on) := C8.fnScope_by (by decide +kernel)
theorem ok_Processor_go_on {fd : FuncData} (T : Txt K mg) (F : FunD K "go_on" "Processor.go_on" (C8.fnArgs s_Processor_go_on) (C8.fnBody s_Processor_go_on) (C8.fnScope s_Processor_go_on) [] [] (He.ma K (aC "Processor" K) "go_on") fd) (c_passes_flag : C8.Met P w K mg base 5 (aC "Processor" K) "_passes_flag" (sp_Processor_passes_flag K) []) (c_go_through : C8.Met P w K mg base 8 (aC "Processor" K) "_go_through" (sp_Processor_go_through K) []) (c_pspend : C8.Met P w K mg base 9 (aC "Processor" K) "_spend" (sp_Processor_spend K) []) :
    C8.Met P w K mg base 10 (aC "Processor" K) "go_on" (sp_Processor_go_on K) [] := by
  refine C8.met0 T.cl_Processor T.m_Processor_go_on (fun_c8 F) (F.bindsN fun _ _ _ _ _ _ us hl => match us, hl with | [_], _ => rfl) sc_Processor_go_on (fun vs H Q E h => ?_) (fun cdv A outer s H vs Q E hr h => ?_)
  · obtain ⟨_, _, _, _, _, _, _, rfl, _⟩ := h
    rfl
  · have nd := sc_Processor_go_on.nd
    have hu := hu_of hr
    obtain ⟨A, P, S, K0, b, p, M, rfl, ow, hcs, ri, hrl, hsl, q⟩ := h
    refine ⟨_, (pss_cons (ps_set (i := 1) nd rfl (Or.inl rfl) (pe_lst pa_nil))
      (pss_cons (ps_while PassesOwn.never (pt_val (C8.pe_mt0 c_passes_flag hr (by decide) (pv 0))) (pss_one (ps_expr (pe_bm PySem.F.plainAttrs_list PySem.F.slot_list_extend PySem.F.type_list_extend mt_extend (pv 1) (pa_cons (C8.pe_mt0 c_go_through hr (by decide) (pv 0)) pa_nil)))))
      (pss_cons (ps_expr (pe_bm PySem.F.plainAttrs_list PySem.F.slot_list_extend PySem.F.type_list_extend mt_extend (pv 1) (pa_cons (C8.pe_mt0 c_pspend hr (by decide) (pv 0)) pa_nil)))
      (pss_one (ps_ret (pv 1)))))), ?_⟩
    refine ⟨Nat.zero_le _, fun a1 ha1 => ?_⟩
    obtain ⟨sv, rv, h1, h2, sp⟩ := ow.ex
    have ow1 : Own K A P S K0 _ b p ((a1, .lst []) :: M) := ow.mk2 (Same.refl K0) ow.fl ⟨sv, rv, h1, h2, (sp.own (o := .lst []) ha1).dn9⟩
    refine ⟨fun m σ H' => ∃ K' b' p' n ev evs, m = (if passes b' p' = true then p'.stack.length else 0) ∧ σ = [some (.ref P.pr), some (.ref a1)] ∧ Same K0 K' ∧ Own K A P S K' H' b' p' ((a1, .lst ev) :: M) ∧ Paired (EvAt K K') ev evs ∧ (∀ c ∈ p'.stack, CallOk S c) ∧ RowsIn S.ws p'.rows ∧ p'.rows.length ≤ p.rows.length + 8 * p.stack.length ∧ (passes b' p' = true → p'.rows.length + 8 * p'.stack.length ≤ p.rows.length + 8 * p.stack.length ∧ p'.stack.length ≤ n) ∧ evs.length + p'.stack.length ≤ p.stack.length ∧ (onA S.ws p.stack.length b p = ((onA S.ws n b' p').1, (onA S.ws n b' p').2.1, evs ++ (onA S.ws n b' p').2.2)), ⟨_, K0, b, p, p.stack.length, [], [], rfl, rfl, Same.refl K0, ow1, .nil, hcs, ri, Nat.le_add_right _ _, fun _ => ⟨Nat.le_refl _, Nat.le_refl _⟩, by simp, rfl⟩, ?_⟩
    rintro m σ H1 ⟨K1, b1, p1, n, ev, evs, rfl, rfl, gg, ow2, hev, hcs1, ri1, rl1, pl1, el1, on1⟩
    obtain ⟨sv2, rv2, k1, k2, sp2⟩ := ow2.ex
    refine ⟨_, rfl, P.pr, P.dp, _, rfl, sp2.c5, rfl, A, P, S, K1, b1, p1, _, rfl, ow2, fun c m => (hcs1 c m).stOk, fun H2 g2 => ⟨_, rfl, ?_⟩⟩
    have ow3 := ow2.grow g2
    have sp3 := sp2.grow g2
    cases hp : passes b1 p1 with
    | true =>
      obtain ⟨r, c, f, e1, ef⟩ := passes_top hp
      obtain ⟨pl2, pl3⟩ := pl1 hp
      have hco := hcs1 c (by rw [e1]; simp)
      have hlt2 : c.step < c.line.steps.length := (List.getElem?_eq_some_iff.mp ef).1
      have ht0 : c.ticks = 0 := by
        rcases hco.st with ⟨z, hz, _⟩ | ⟨_, _, hz⟩
        · rw [ef] at hz
          cases hz
        · exact hz
      have sl : p1.stack.length = r.length + 1 := by rw [e1]; simp
      have G := goA_ok (b := b1) ow.fb.ok e1 hco.ln (Nat.le_of_lt hlt2) ht0 (fun c' m => hcs1 c' (by rw [e1]; exact List.mem_append_left _ m)) ri1
      obtain ⟨n, rfl⟩ : ∃ n', n = n' + 1 := ⟨n - 1, by omega⟩
      rw [onA_yes hp] at on1
      refine iteT ?_
      refine ⟨fun σ' H' => ∃ K' b' p' n ev evs, (if passes b' p' = true then p'.stack.length else 0) < (if true = true then p1.stack.length else 0) ∧ σ' = [some (.ref P.pr), some (.ref a1)] ∧ Same K0 K' ∧ Own K A P S K' H' b' p' ((a1, .lst ev) :: M) ∧ Paired (EvAt K K') ev evs ∧ (∀ c ∈ p'.stack, CallOk S c) ∧ RowsIn S.ws p'.rows ∧ p'.rows.length ≤ p.rows.length + 8 * p.stack.length ∧ (passes b' p' = true → p'.rows.length + 8 * p'.stack.length ≤ p.rows.length + 8 * p.stack.length ∧ p'.stack.length ≤ n) ∧ evs.length + p'.stack.length ≤ p.stack.length ∧ (onA S.ws p.stack.length b p = ((onA S.ws n b' p').1, (onA S.ws n b' p').2.1, evs ++ (onA S.ws n b' p').2.2)), ?_, ?_⟩
      · rintro σ' H' ⟨K', b', p', n', ev', evs', hlt, e2, e3, e4, e5, e6, e7, e8, e9, e10, e11⟩
        exact ⟨_, hlt, K', b', p', n', ev', evs', rfl, e2, e3, e4, e5, e6, e7, e8, e9, e10, e11⟩
      have ha3 := sp3.up9.c0
      refine ⟨_, rfl, .inl ⟨rfl, _, .inl (.inl ha3)⟩, _, rfl, P.pr, P.dp, _, rfl, sp3.c5, rfl, A, P, S, K1, b1, p1, _, r, c, rfl, ow3, e1, hco.ln, Nat.le_of_lt hlt2, ri1, by omega, by omega, fun K2 H3 a ev2 g ow4 ha he => ?_⟩
      obtain ⟨sv4, rv4, m1, m2, sp4⟩ := ow4.ex
      have hl1 := hev.length
      have hl2 := he.length
      obtain ⟨gc, gri, grl, gfl, gsl⟩ := G
      have ge : (goA S.ws b1 p1).2.2.length ≤ 1 := by
        rcases gsl with ⟨_, z⟩ | ⟨_, z, _⟩
        · omega
        · rw [z]
          simp
      refine ⟨_, _, _, _, rfl, rfl, sp4.up9.c0, sp4.ext _ _ ha, Nat.le_of_lt (sml (m := 100) (by omega) (by decide)), ?_⟩
      have sp5 := sp4.up9.put0 (o' := .lst (ev ++ ev2))
      have ow5 : Own K A P S K2 _ _ _ ((a1, .lst (ev ++ ev2)) :: M) := ow4.mk2 (Same.refl K2) ow4.fl ⟨sv4, rv4, m1, m2, sp5.dn9⟩
      refine ⟨K2, _, _, n, ev ++ ev2, evs ++ (goA S.ws b1 p1).2.2, ?_, rfl, Same.tr gg g, ow5, papp he (hev.mono fun _ _ z => EvAt.up g z), gc, gri, by omega, fun hpp => ?_, ?_, ?_⟩
      · rw [if_pos rfl]
        rcases gsl with ⟨z, _⟩ | ⟨z, _, _⟩
        · rw [z]
          split <;> omega
        · rw [z, if_neg (by simp)]
          omega
      · rcases gsl with ⟨z, _⟩ | ⟨z, _, _⟩
        · rw [z]
          omega
        · rw [hpp] at z
          cases z
      · rw [List.length_append]
        rcases gsl with ⟨z, y⟩ | ⟨_, y, z⟩
        · rw [z]
          omega
        · rw [y, z]
          simp
          omega
      · rw [on1, List.append_assoc]
    | false =>
      refine iteF ?_
      rw [onA_no hp, List.append_nil] at on1
      have ha3 := sp3.up9.c0
      refine ⟨_, rfl, .inl ⟨rfl, _, .inl (.inl ha3)⟩, _, rfl, P.pr, P.dp, _, rfl, sp3.c5, rfl, A, P, S, K1, b1, p1, _, rfl, ow3, hcs1, ri1, by omega, by omega, fun K2 H3 a ev2 g ow4 ha he => ?_⟩
      obtain ⟨sv4, rv4, m1, m2, sp4⟩ := ow4.ex
      have hl1 := hev.length
      have hl2 := he.length
      have ge := spendA_evs (ws := S.ws) (b := b1) (p := p1)
      refine ⟨_, _, _, _, rfl, rfl, sp4.up9.c0, sp4.ext _ _ ha, Nat.le_of_lt (sml (m := 100) (by omega) (by decide)), ?_⟩
      have sp5 := sp4.up9.put0 (o' := .lst (ev ++ ev2))
      have g5 := sp5.new0
      unfold goOn at q
      simp only [on1] at q
      exact ⟨_, rfl, q _ _ a1 (ev ++ ev2) (Same.tr gg (Same.tr g g5)) (ow4.mk2 g5 ow4.fl ⟨sv4, rv4, m1.mono fun _ _ z => CallAt.up g5 z, m2.mono fun _ _ z => RowAt.up g5 z, sp5.freeze⟩) upd_same (papp (he.mono fun _ _ z => EvAt.up g5 z) (hev.mono fun _ _ z => EvAt.up (Same.tr g g5) z))⟩
abbrev N_Processor_take : List Str := ["self", "lines", "line"]
theorem sc_Processor_take : FnScope N_Processor_take ["self", "lines"] (C8.fnScope s_Processor_take) := C8.fnScope_by (by decide +kernel)
theorem ok_Processor_take {fd : FuncData} (T : Txt K mg) (F : FunD K "take" "Processor.take" (C8.fnArgs s_Processor_take) (C8.fnBody s_Processor_take) (C8.fnScope s_Processor_take) [] [] (He.ma K (aC "Processor" K) "take") fd) (c_lets_by : C8.Met P w K mg base 4 (aC "Processor" K) "_lets_by" (sp_Processor_lets_by K) []) (c_begin : C8.Met P w K mg base 5 (aC "Board" K) "begin" (sp_Board_begin K) []) (c_go_through : C8.Met P w K mg base 8 (aC "Processor" K) "_go_through" (sp_Processor_go_through K) []) :
    C8.Met P w K mg base 9 (aC "Processor" K) "take" (sp_Processor_take K) [] := by
  refine C8.met0 T.cl_Processor T.m_Processor_take (fun_c8 F) (F.bindsN fun _ _ _ _ _ _ us hl => match us, hl with | [_, _], _ => rfl) sc_Processor_take (fun vs H Q E h => ?_) (fun cdv A outer s H vs Q E hr h => ?_)
  · obtain ⟨_, _, _, _, _, _, _, _, _, rfl, _⟩ := h
    rfl
  · have nd := sc_Processor_take.nd
    have hu := hu_of hr
    obtain ⟨A, P, S, K0, b, p, M, lp, ls, rfl, ow, hcs, ri, hrl, hsl, hlp, hls, q⟩ := h
    refine ⟨_, (pss_cons (ps_if (PW.pt (pw_or (pt_not (pt_truth (pv 1) (by intro _; rfl))) (pw_or1 (pt_not (pt_val (C8.pe_mt c_lets_by hr (by decide) (pv 0) (pa_cons (pe_ix ix_list (pv 1) pe_int (fun _ _ => rfl)) pa_nil))))))) (pss_one (ps_ret (pe_lst pa_nil))) pss_nil)
      (pss_cons (ps_set (i := 2) nd rfl (Or.inl rfl) (pe_ix ix_list (pv 1) pe_int (fun _ _ => rfl)))
      (pss_cons (ps_expr (C8.pe_mt c_begin hr (by decide) (pe_fld (pv 0) rfl) (pa_cons (pv 2) pa_nil)))
      (pss_cons (ps_expr (pe_bm PySem.F.plainAttrs_list PySem.F.slot_list_append PySem.F.type_list_append mt_append (pe_fld (pv 0) rfl) (pa_cons (pe_tup (pa_cons (pv 2) (pa_cons pe_int (pa_cons pe_int (pa_cons (pe_fld (pv 0) rfl) pa_nil))))) pa_nil)))
      (pss_one (ps_ret (pe_lst (pa_cons (pe_tup (pa_cons pe_str (pa_cons (pv 2) pa_nil))) (StX.pa_star (C8.pe_mt0 c_go_through hr (by decide) (pv 0)) pa_nil))))))))), ?_⟩
    obtain ⟨sv, rv, h1, h2, sp⟩ := ow.ex
    have hpr := sp.c5
    have hlp1 := sp.ext _ _ hlp
    cases ls with
    | nil =>
      have q : ∀ K1 H' a ev, Same K0 K1 → Own K A P S K1 H' b p ((a, .lst ev) :: M) → Paired (EvAt K K1) ev [] → Q (.ref a) H' := q
      refine ⟨_, rfl, false, .inl ⟨_, l_of hlp1, rfl⟩, iteT ?_⟩
      refine ⟨Nat.zero_le _, fun a hp => ?_⟩
      exact q K0 _ a [] (Same.refl K0) (ow.mk2 (Same.refl K0) ow.fl ⟨sv, rv, h1, h2, (sp.own (o := .lst []) hp).dn9⟩) .nil
    | cons l ls =>
    have hl := hls l List.mem_cons_self
    refine ⟨_, rfl, true, .inl ⟨_, l_of hlp1, rfl⟩, iteF ?_⟩
    refine ⟨_, rfl, P.pr, P.dp, _, rfl, hpr, rfl, _, rfl, _, _, _, _, rfl, rfl, l_of hlp1, atIn (n := 0) rfl, A, P, S, K0, b, p, M, l, rfl, ow, hl, fun c m => (hcs c m).ln, _, rfl, ?_⟩
    by_cases hb : floorA p < l.rank
    · rw [decide_eq_true hb]
      have tk : takeA S.ws b p (l :: ls) = ((goA S.ws (beginB b l) { p with stack := p.stack ++ [⟨l, 0, 0, p.bar⟩] }).1, (goA S.ws (beginB b l) { p with stack := p.stack ++ [⟨l, 0, 0, p.bar⟩] }).2.1, .bgn l :: (goA S.ws (beginB b l) { p with stack := p.stack ++ [⟨l, 0, 0, p.bar⟩] }).2.2) := if_pos hb
      rw [tk] at q
      refine iteF ?_
      refine ⟨_, rfl, _, _, _, _, rfl, rfl, l_of hlp1, atIn (n := 0) rfl, ?_⟩
      have hbo := sp.ext _ _ ow.fb.at_
      refine ⟨_, rfl, _, _, _, _, _, rfl, hpr, T.cl_Processor, T.t_Processor_board, rfl, A.bo, A.db, _, rfl, hbo, rfl, _, rfl, A, S, l, K0, b, _, rfl, ⟨ow.fb, ow.fl, sp⟩, hl, fun H1 owb => ?_⟩
      have sp1 := owb.sp
      have hpr1 := sp1.c5
      refine ⟨_, rfl, _, _, _, _, _, rfl, hpr1, T.cl_Processor, T.t_Processor_stack, rfl, .inl ⟨rfl, _, .inl (.inl sp1.c6)⟩, _, rfl, _, rfl, _, _, _, _, _, rfl, hpr1, T.cl_Processor, T.t_Processor_bar, rfl, small8 (by simp), fun t2 ht2 => ?_⟩
      have sp2 := sp1.keep (o := .tup [.str l.name, .int 0, .int 0, .int p.bar]) ht2
      have g2 := sp1.newk (o := .tup [.str l.name, .int 0, .int 0, .int p.bar]) ht2
      refine ⟨_, _, _, rfl, rfl, sp2.c6, sml (m := 4000) (by have := h1.length; omega) (by decide), ?_⟩
      have sp3 := sp2.put6 (y := .lst (sv ++ [V.ref t2]))
      refine ⟨_, rfl, small8 (by simp), fun t3 ht3 => ?_⟩
      have sp4 := sp3.keep (o := .tup [.str "begin", .str l.name]) ht3
      have g4 := sp3.newk (o := .tup [.str "begin", .str l.name]) ht3
      have g := Same.tr g2 g4
      have ow4 : Own K A P S _ _ (beginB b l) { p with stack := p.stack ++ [⟨l, 0, 0, p.bar⟩] } M := ow.mk2 g owb.fl ⟨sv ++ [V.ref t2], rv, Paired.snoc (h1.mono fun _ _ z => CallAt.up g z) ⟨t2, rfl, t_of (g4 _ _ upd_same)⟩, h2.mono fun _ _ z => RowAt.up g z, sp4⟩
      have G := goA_ok (b := beginB b l) (p := { p with stack := p.stack ++ [⟨l, 0, 0, p.bar⟩] }) ow.fb.ok rfl hl (Nat.zero_le _) rfl hcs ri
      have ge : (goA S.ws (beginB b l) { p with stack := p.stack ++ [⟨l, 0, 0, p.bar⟩] }).2.2.length ≤ 1 := by
        rcases G.sl with ⟨_, z⟩ | ⟨_, z, _⟩
        · omega
        · rw [z]
          simp
      refine ⟨_, rfl, P.pr, P.dp, _, rfl, sp4.c5, rfl, A, P, S, _, _, _, M, p.stack, ⟨l, 0, 0, p.bar⟩, rfl, ow4, rfl, hl, Nat.zero_le _, ri, (show p.rows.length ≤ 3900 by omega), (by simp; omega), fun K1 H2 a ev g5 ow5 hp he => ?_⟩
      obtain ⟨sv5, rv5, m1, m2, sp5⟩ := ow5.ex
      have hlen := he.length
      refine ⟨a, ev, rfl, .inr (l_of (sp5.ext _ _ hp)), Nat.le_of_lt (sml (m := 9) (by simp; omega) (by decide)), fun z hz => ?_⟩
      have sp6 := sp5.own (o := .lst (.ref t3 :: (ev ++ []))) hz
      refine q K1 _ z _ (Same.tr g g5) (ow5.mk2 (Same.refl K1) ow5.fl ⟨sv5, rv5, m1, m2, sp6.dn9⟩) ?_
      rw [List.append_nil]
      exact .cons ⟨t3, rfl, t_of (g5 _ _ upd_same)⟩ he
    · rw [decide_eq_false hb]
      have tk : takeA S.ws b p (l :: ls) = (b, p, []) := if_neg hb
      rw [tk] at q
      refine iteT ?_
      refine ⟨Nat.zero_le _, fun a hp => ?_⟩
      exact q K0 _ a [] (Same.refl K0) (ow.mk2 (Same.refl K0) ow.fl ⟨sv, rv, h1, h2, (sp.own (o := .lst []) hp).dn9⟩) .nil
end
end Cb

namespace Cb
open PySem PySem.Spec PyProof.Rows L2

def C3At (K : PySem.W.Frag) (H : Hp) (v : V) (c : CallD) : Prop := ∃ t, v = .ref t ∧ SqT K H t [.str c.line.name, .int (c.step : Nat), .int c.ticks]
theorem C3At.up {K : PySem.W.Frag} {H H' : Hp} {v : V} {r : CallD} (e : Same H H') (h : C3At K H v r) : C3At K H' v r := h.elim fun a h => ⟨a, h.1, Same.tup e h.2⟩
def sp_Processor_call_rows (K : PySem.W.Frag) : Sp := fun vs H Q _ => ∃ (A : AdB) (P : AdP) (S : SetD) (K0 : Hp) (b : BdD) (p : PrD) (M : List (Addr × HO)), vs = [.ref P.pr] ∧ Own K A P S K0 H b p M ∧ p.stack.length ≤ 3900 ∧
  ∀ K1 H' a ev, Same K0 K1 → Own K A P S K1 H' b p M → K1 a = some (.lst ev) → Paired (C3At K K1) ev p.stack → Q (.ref a) H'
def sp_Processor_work_rows (K : PySem.W.Frag) : Sp := fun vs H Q _ => ∃ (A : AdB) (P : AdP) (S : SetD) (K0 : Hp) (b : BdD) (p : PrD) (M : List (Addr × HO)), vs = [.ref P.pr] ∧ Own K A P S K0 H b p M ∧ p.rows.length ≤ 3900 ∧
  ∀ K1 H' a ev, Same K0 K1 → Own K A P S K1 H' b p M → K1 a = some (.lst ev) → Paired (RowAt K K1) ev p.rows → Q (.ref a) H'
def sp_Processor_spent_ticks (K : PySem.W.Frag) : Sp := fun vs H Q _ => ∃ (A : AdB) (P : AdP) (S : SetD) (K0 : Hp) (b : BdD) (p : PrD) (M : List (Addr × HO)), vs = [.ref P.pr] ∧ Own K A P S K0 H b p M ∧
  ∀ K1 H' a, Same K0 K1 → Own K A P S K1 H' b p M → K1 a = some (.tup [.int p.c0, .int p.c1, .int p.c2, .int p.c3]) → Q (.ref a) H'
def sp_Processor_bar_now (K : PySem.W.Frag) : Sp := fun vs H Q _ => ∃ (A : AdB) (P : AdP) (S : SetD) (K0 : Hp) (b : BdD) (p : PrD) (M : List (Addr × HO)), vs = [.ref P.pr] ∧ Own K A P S K0 H b p M ∧ Q (.int p.bar) H
def pr0 : PrD := ⟨0, [], [], 0, 0, 0, 0⟩
def sp_Processor_init (K : PySem.W.Frag) : Sp := fun vs H Q _ => ∃ (x dx : Addr) (A : AdB) (S : SetD) (K0 : Hp) (b : BdD) (M : List (Addr × HO)), vs = [.ref x, .ref A.su, .ref A.bo] ∧ BoardAt K K0 A S ∧ b.fl.length = 8 ∧ Sep K0 H ((x, .ins (aC "Processor" K) dx []) :: layB A S b M) ∧
  ∀ K1 H' P, Same K0 K1 → P.pr = x → K0 P.jo = none → Own K A P S K1 H' b pr0 M → Q .non H'
theorem Sep.obj {K0 H : Hp} {L : List (Addr × HO)} (s : Sep K0 H L) {x dx : Addr} {o o' : HO} (h : H x = none) (h' : H dx = none) (ne : dx ≠ x) : Sep K0 (upd (upd H dx o) x o') ((x, o') :: L) := by
  refine (s.drop h').own ?_
  rw [upd_ne (Ne.symm ne)]
  exact h
theorem perm9 {α : Type} (x co ro st r d u f m : α) (M : List α) : (r :: d :: u :: f :: m :: x :: st :: ro :: co :: M).Perm (x :: co :: ro :: st :: r :: d :: u :: f :: m :: M) := by
  have h1 : (r :: d :: u :: f :: m :: x :: st :: ro :: co :: M).Perm (x :: r :: d :: u :: f :: m :: st :: ro :: co :: M) := List.perm_middle (l₁ := [r, d, u, f, m])
  refine h1.trans (.cons x ?_)
  have h2 : (r :: d :: u :: f :: m :: st :: ro :: co :: M).Perm (co :: r :: d :: u :: f :: m :: st :: ro :: M) := List.perm_middle (l₁ := [r, d, u, f, m, st, ro])
  refine h2.trans (.cons co ?_)
  have h3 : (r :: d :: u :: f :: m :: st :: ro :: M).Perm (ro :: r :: d :: u :: f :: m :: st :: M) := List.perm_middle (l₁ := [r, d, u, f, m, st])
  exact h3.trans (.cons ro (List.perm_middle (l₁ := [r, d, u, f, m])))

section
variable {P : Program} {w : World} {K : PySem.W.Frag} {mg : Str → Option Value} {base : Heap}

abbrev N_Processor_spent_ticks : List Str := ["self"]
theorem sc_Processor_spent_ticks : FnScope N_Processor_spent_ticks ["self"] (C8.fnScope s_Processor_spent_ticks) := C8.fnScope_by (by decide +kernel)
theorem ok_Processor_spent_ticks {fd : FuncData} (T : Txt K mg) (F : FunD K "spent_ticks" "Processor.spent_ticks" (C8.fnArgs s_Processor_spent_ticks) (C8.fnBody s_Processor_spent_ticks) (C8.fnScope s_Processor_spent_ticks) [] [] (He.ma K (aC "Processor" K) "spent_ticks") fd) :
    C8.Met P w K mg base 1 (aC "Processor" K) "spent_ticks" (sp_Processor_spent_ticks K) [] := by
  refine C8.met0 T.cl_Processor T.m_Processor_spent_ticks (fun_c8 F) (F.bindsN fun _ _ _ _ _ _ us hl => match us, hl with | [_], _ => rfl) sc_Processor_spent_ticks (fun vs H Q E h => ?_) (fun cdv A outer s H vs Q E hr h => ?_)
  · obtain ⟨_, _, _, _, _, _, _, rfl, _⟩ := h
    rfl
  · have nd := sc_Processor_spent_ticks.nd
    have hu := hu_of hr
    obtain ⟨A, P, S, K0, b, p, M, rfl, ow, q⟩ := h
    refine ⟨_, (pss_one (ps_ret (pe_callTy call_tuple_of (by rfl) T.n_tuple (by decide +kernel) (pa_cons (pe_fld (pv 0) rfl) pa_nil)))), ?_⟩
    obtain ⟨sv, rv, h1, h2, sp⟩ := ow.ex
    have hpr := sp.c5
    refine ⟨_, rfl, _, _, _, _, _, rfl, hpr, T.cl_Processor, T.t_Processor_counts, rfl, _, _, rfl, .inl ⟨l_of sp.c8, fun a hp => ?_⟩⟩
    have g := sp.newk (o := .tup [.int p.c0, .int p.c1, .int p.c2, .int p.c3]) hp
    exact q _ _ a g (ow.mk2 g ow.fl ⟨sv, rv, h1.mono fun _ _ z => CallAt.up g z, h2.mono fun _ _ z => RowAt.up g z, sp.keep hp⟩) upd_same
abbrev N_Processor_bar_now : List Str := ["self"]
theorem sc_Processor_bar_now : FnScope N_Processor_bar_now ["self"] (C8.fnScope s_Processor_bar_now) := C8.fnScope_by (by decide +kernel)
theorem ok_Processor_bar_now {fd : FuncData} (T : Txt K mg) (F : FunD K "bar_now" "Processor.bar_now" (C8.fnArgs s_Processor_bar_now) (C8.fnBody s_Processor_bar_now) (C8.fnScope s_Processor_bar_now) [] [] (He.ma K (aC "Processor" K) "bar_now") fd) :
    C8.Met P w K mg base 1 (aC "Processor" K) "bar_now" (sp_Processor_bar_now K) [] := by
  refine C8.met0 T.cl_Processor T.m_Processor_bar_now (fun_c8 F) (F.bindsN fun _ _ _ _ _ _ us hl => match us, hl with | [_], _ => rfl) sc_Processor_bar_now (fun vs H Q E h => ?_) (fun cdv A outer s H vs Q E hr h => ?_)
  · obtain ⟨_, _, _, _, _, _, _, rfl, _⟩ := h
    rfl
  · have nd := sc_Processor_bar_now.nd
    have hu := hu_of hr
    obtain ⟨A, P, S, K0, b, p, M, rfl, ow, q⟩ := h
    refine ⟨_, (pss_one (ps_ret (pe_fld (pv 0) rfl))), ?_⟩
    obtain ⟨sv, rv, h1, h2, sp⟩ := ow.ex
    have hpr := sp.c5
    exact ⟨_, rfl, _, _, _, _, _, rfl, hpr, T.cl_Processor, T.t_Processor_bar, rfl, q⟩
abbrev N_Processor_work_rows : List Str := ["self"]
theorem sc_Processor_work_rows : FnScope N_Processor_work_rows ["self"] (C8.fnScope s_Processor_work_rows) := C8.fnScope_by (by decide +kernel)
theorem ok_Processor_work_rows {fd : FuncData} (T : Txt K mg) (F : FunD K "work_rows" "Processor.work_rows" (C8.fnArgs s_Processor_work_rows) (C8.fnBody s_Processor_work_rows) (C8.fnScope s_Processor_work_rows) [] [] (He.ma K (aC "Processor" K) "work_rows") fd) (c_jrows : C8.Met P w K mg base 1 (aC "WorkQueue" K) "rows" (sp_WorkQueue_rows K) []) :
    C8.Met P w K mg base 2 (aC "Processor" K) "work_rows" (sp_Processor_work_rows K) [] := by
  refine C8.met0 T.cl_Processor T.m_Processor_work_rows (fun_c8 F) (F.bindsN fun _ _ _ _ _ _ us hl => match us, hl with | [_], _ => rfl) sc_Processor_work_rows (fun vs H Q E h => ?_) (fun cdv A outer s H vs Q E hr h => ?_)
  · obtain ⟨_, _, _, _, _, _, _, rfl, _⟩ := h
    rfl
  · have nd := sc_Processor_work_rows.nd
    have hu := hu_of hr
    obtain ⟨A, P, S, K0, b, p, M, rfl, ow, hl, q⟩ := h
    refine ⟨_, (pss_one (ps_ret (C8.pe_mt0 c_jrows hr (by decide) (pe_fld (pv 0) rfl)))), ?_⟩
    obtain ⟨sv, rv, h1, h2, sp⟩ := ow.ex
    have hpr := sp.c5
    obtain ⟨dj, rk, ln, j1, _⟩ := (JobsAt.up sp.ext ow.fj).ex
    refine ⟨_, rfl, _, _, _, _, _, rfl, hpr, T.cl_Processor, T.t_Processor_jobs, rfl, P.jo, dj, _, rfl, j1, rfl, P.jo, P.ro, S.ws, rv, rfl, JobsAt.up sp.ext ow.fj, sp.c7, by have := h2.length; omega, fun a H1 g hp hp1 => ?_⟩
    have sp1 := sp.own' g hp hp1
    have g1 := sp1.new0
    exact q _ _ a rv g1 (ow.mk2 g1 ow.fl ⟨sv, rv, h1.mono fun _ _ z => CallAt.up g1 z, h2.mono fun _ _ z => RowAt.up g1 z, sp1.freeze⟩) upd_same (h2.mono fun _ _ z => RowAt.up g1 z)
abbrev N_Processor_call_rows : List Str := ["self", "call"]
theorem sc_Processor_call_rows : FnScope N_Processor_call_rows ["self"] (C8.fnScope s_Processor_call_rows) := C8.fnScope_by (by decide +kernel)
theorem ok_Processor_call_rows {fd : FuncData} (T : Txt K mg) (F : FunD K "call_rows" "Processor.call_rows" (C8.fnArgs s_Processor_call_rows) (C8.fnBody s_Processor_call_rows) (C8.fnScope s_Processor_call_rows) [] [] (He.ma K (aC "Processor" K) "call_rows") fd) :
    C8.Met P w K mg base 1 (aC "Processor" K) "call_rows" (sp_Processor_call_rows K) [] := by
  refine C8.met0 T.cl_Processor T.m_Processor_call_rows (fun_c8 F) (F.bindsN fun _ _ _ _ _ _ us hl => match us, hl with | [_], _ => rfl) sc_Processor_call_rows (fun vs H Q E h => ?_) (fun cdv A outer s H vs Q E hr h => ?_)
  · obtain ⟨_, _, _, _, _, _, _, rfl, _⟩ := h
    rfl
  · have nd := sc_Processor_call_rows.nd
    have hu := hu_of hr
    obtain ⟨A, P, S, K0, b, p, M, rfl, ow, hl, q⟩ := h
    refine ⟨_, (pss_one (ps_ret (pe_lc (own := [("call", 1)]) rfl nd (pi_list (pe_fld (pv 0) rfl)) (blkOk_by (own := [("call", 1)]) (N := N_Processor_call_rows) (sc := (C8.fnScope s_Processor_call_rows)) (by decide +kernel)) (fun _ _ _ _ _ => (pg_name (i := 1) nd rfl (Or.inl rfl))) (fun _ _ _ _ _ => pts_nil) (fun _ _ _ _ _ => (pe_slice (sl_tup : SlR _ (rSlT K)) (pv 1) po_none (po_some pe_int)))))), ?_⟩
    obtain ⟨sv, rv, h1, h2, sp⟩ := ow.ex
    have hpr := sp.c5
    have hlen := h1.length
    refine ⟨_, rfl, _, _, _, _, _, rfl, hpr, T.cl_Processor, T.t_Processor_stack, rfl, _, rfl, ⟨_, l_of sp.c6⟩, fun D hD => ?_⟩
    refine lc_it (walk_list (xs := sv)) (fun i H' => ∃ K' acc, Same K0 K' ∧ Sep K' H' ((D, .lst acc) :: layB A S b (layP K A P p sv rv M)) ∧ Paired (C3At K K') acc (p.stack.take i)) ⟨K0, [], Same.refl _, sp.own hD, .nil⟩ ?_ ?_ ?_
    · rintro i H' _ ⟨K', acc, g, sp', _⟩
      exact l_of sp'.c7
    · rintro i v H1 H2 hi ⟨K', acc, g, sp', pr⟩ ⟨rfl, e2⟩
      obtain ⟨c, hc, t, rfl, ht⟩ := pget h1 e2
      have hlc := pr.length
      refine ⟨rfl, ⟨_, rfl, _, rfl, _, _, rfl, Same.tup (Same.tr g sp'.ext) ht, by simp [HT.sIx], fun a hp => ?_⟩⟩
      rw [cut3]
      have z := sp'.keep (o := .tup [.str c.line.name, .int (c.step : Nat), .int c.ticks]) hp
      have gz := sp'.newk (o := .tup [.str c.line.name, .int (c.step : Nat), .int c.ticks]) hp
      refine ⟨_, z.c0, sml (m := 4000) (by simp at hlc; omega) (by decide), _, _, Same.tr g gz, z.put0, ?_⟩
      rw [take_snoc hc]
      exact Paired.snoc (pr.mono fun _ _ z => C3At.up gz z) ⟨a, rfl, t_of upd_same⟩
    rintro H1 ⟨K', acc, g, sp', pr⟩
    rw [List.take_of_length_le (by omega)] at pr
    have g1 := sp'.new0
    have gA := Same.tr g g1
    exact q _ _ D acc gA (ow.mk2 gA ow.fl ⟨sv, rv, h1.mono fun _ _ z => CallAt.up gA z, h2.mono fun _ _ z => RowAt.up gA z, sp'.freeze⟩) upd_same (pr.mono fun _ _ z => C3At.up g1 z)
abbrev N_Processor_init : List Str := ["self", "setup", "board"]
theorem sc_Processor_init : FnScope N_Processor_init ["self", "setup", "board"] (C8.fnScope s_Processor_init) := C8.fnScope_by (by decide +kernel)
theorem ok_Processor_init {fd : FuncData} (T : Txt K mg) (F : FunD K "__init__" "Processor.__init__" (C8.fnArgs s_Processor_init) (C8.fnBody s_Processor_init) (C8.fnScope s_Processor_init) [] [] (He.ma K (aC "Processor" K) "__init__") fd) (c_works : FnP P w K mg base 1 (prA "Setup" "works" K) (sp_Setup_works K)) (c_WorkQueue : C8.Mak P w K mg base 1 "WorkQueue" (aC "WorkQueue" K) (sp_WorkQueue_init K) []) :
    C8.Mak P w K mg base 4 "Processor" (aC "Processor" K) (sp_Processor_init K) [] := by
  refine C8.mak0 (ds := []) T.mk_Processor T.g_Processor (fun_c8 F) (F.bindsN fun _ _ _ _ _ _ us hl => match us, hl with | [_, _, _], _ => rfl) .nil sc_Processor_init (fun vs H Q E h => ?_) (fun cdv A outer s H vs Q E hr h => ?_)
  · obtain ⟨_, _, _, _, _, _, _, rfl, _⟩ := h
    rfl
  · have nd := sc_Processor_init.nd
    have hu := hu_of hr
    obtain ⟨x, dx, A, S, K0, b, M, rfl, B, hfl, sp, q⟩ := h
    obtain ⟨pw, hpw⟩ := T.p_Setup_works
    refine ⟨_, (pss_cons (ps_fld (pv 0) (pv 1) rfl)
      (pss_cons (ps_fld (pv 0) (pv 2) rfl)
      (pss_cons (ps_fld (pv 0) pe_int rfl)
      (pss_cons (ps_fld (pv 0) (pe_lst pa_nil) rfl)
      (pss_cons (ps_fld (pv 0) (C8.pe_mk c_WorkQueue hr (by decide) rfl (pa_cons (C_prop hpw T.cl_Setup c_works hr (by decide) (pv 1)) pa_nil)) rfl)
      (pss_one (ps_fld (pv 0) (pe_lst (pa_cons pe_int (pa_cons pe_int (pa_cons pe_int (pa_cons pe_int pa_nil))))) rfl))))))), ?_⟩
    obtain ⟨dx2, la, wa, bn, oa, xs, h3, h3b, h3c, _⟩ := B.su.ex
    refine ⟨_, rfl, _, rfl, _, _, _, _, rfl, sp.c0, T.cl_Processor, T.t_Processor_setup, (by simp), ?_⟩
    have t1 := sp.put0 (o' := .ins (aC "Processor" K) dx [("_setup", .ref A.su)])
    refine ⟨_, rfl, _, rfl, _, _, _, _, rfl, t1.c0, T.cl_Processor, T.t_Processor_board, (by simp), ?_⟩
    have t2 := t1.put0 (o' := .ins (aC "Processor" K) dx [("_setup", .ref A.su), ("_board", .ref A.bo)])
    refine ⟨_, rfl, _, _, _, _, rfl, t2.c0, T.cl_Processor, T.t_Processor_bar, (by simp), ?_⟩
    have t3 := t2.put0 (o' := .ins (aC "Processor" K) dx [("_setup", .ref A.su), ("_board", .ref A.bo), ("_bar", .int 0)])
    refine ⟨Nat.zero_le _, fun st hst => ?_⟩
    have t4 := (t3.own (o := .lst []) hst).swap
    refine ⟨_, rfl, _, _, _, _, rfl, t4.c0, T.cl_Processor, T.t_Processor_stack, (by simp), ?_⟩
    have t5 := t4.put0 (o' := .ins (aC "Processor" K) dx [("_setup", .ref A.su), ("_board", .ref A.bo), ("_bar", .int 0), ("_stack", .ref st)])
    refine ⟨_, rfl, A.su, dx2, _, rfl, t5.ext _ _ h3, A.su, S, K0, rfl, B.su, t5.ext, fun wa hwa jo dj hjo hdj hne => ?_⟩
    have t6 := t5.obj (o := .own jo) (o' := .ins (aC "WorkQueue" K) dj []) hjo hdj hne
    refine ⟨jo, dj, wa, S.ws, K0, _, rfl, t6, hwa, B.ok.okw, fun K1 H1 ro g1 hJ t7 => ⟨rfl, ?_⟩⟩
    refine ⟨_, rfl, _, _, _, _, rfl, t7.c1, T.cl_Processor, T.t_Processor_jobs, (by simp), ?_⟩
    have t8 := t7.swap.put0 (o' := .ins (aC "Processor" K) dx [("_setup", .ref A.su), ("_board", .ref A.bo), ("_bar", .int 0), ("_stack", .ref st), ("_jobs", .ref jo)])
    refine ⟨small8 (by simp), fun co hco => ?_⟩
    have t9 := (t8.own (o := .lst [.int 0, .int 0, .int 0, .int 0]) hco).swap
    refine ⟨_, rfl, _, _, _, _, rfl, t9.c0, T.cl_Processor, T.t_Processor_counts, (by simp), ?_⟩
    have tA := t9.put0 (o' := .ins (aC "Processor" K) dx [("_setup", .ref A.su), ("_board", .ref A.bo), ("_bar", .int 0), ("_stack", .ref st), ("_jobs", .ref jo), ("_counts", .ref co)])
    exact q K1 _ ⟨x, dx, st, jo, ro, co⟩ g1 rfl (t5.free hjo).1 ⟨BoardAt.up g1 B, hJ, hfl, [], [], .nil, .nil, tA.perm (perm9 _ _ _ _ _ _ _ _ _ _)⟩
end
end Cb

namespace Cb
open PySem PySem.Spec PyProof.Rows L2

def siI (K : PySem.W.Frag) (A : AdB) (P : AdP) (dx : Addr) (now : Int) : HO := .ins (aC "Single" K) dx [("_setup", .ref A.su), ("_board", .ref A.bo), ("_processor", .ref P.pr), ("_now", .int now)]
def sp_Single_ring (K : PySem.W.Frag) : Sp := fun vs H Q _ => ∃ (A : AdB) (P : AdP) (S : SetD) (K0 : Hp) (b : BdD) (p : PrD) (si dx : Addr) (now : Int) (M : List (Addr × HO)) (l : LineD), vs = [.ref si, .str l.name] ∧ Own K A P S K0 H b p ((si, siI K A P dx now) :: M) ∧ l ∈ S.ls ∧
  ∀ H', Own K A P S K0 H' (ringB b l.name) p ((si, siI K A P dx now) :: M) → Q (.str (ringR (b.rung l.name))) H'
def sp_Single_quiet (K : PySem.W.Frag) : Sp := fun vs H Q _ => ∃ (A : AdB) (P : AdP) (S : SetD) (K0 : Hp) (b : BdD) (p : PrD) (si dx : Addr) (now : Int) (M : List (Addr × HO)) (l : LineD), vs = [.ref si, .str l.name] ∧ Own K A P S K0 H b p ((si, siI K A P dx now) :: M) ∧ l ∈ S.ls ∧ l.lvl = true ∧
  ∀ H', Own K A P S K0 H' (quietB b l.name) p ((si, siI K A P dx now) :: M) → Q (.bl (b.rung l.name)) H'
def sp_Single_mask (K : PySem.W.Frag) : Sp := fun vs H Q _ => ∃ (A : AdB) (P : AdP) (S : SetD) (K0 : Hp) (b : BdD) (p : PrD) (si dx : Addr) (now : Int) (M : List (Addr × HO)) (l : LineD), vs = [.ref si, .str l.name] ∧ Own K A P S K0 H b p ((si, siI K A P dx now) :: M) ∧ l ∈ S.ls ∧
  ∀ H', Own K A P S K0 H' (maskB b l.name true) p ((si, siI K A P dx now) :: M) → Q (.bl (!b.dis l.name)) H'
def sp_Single_unmask (K : PySem.W.Frag) : Sp := fun vs H Q _ => ∃ (A : AdB) (P : AdP) (S : SetD) (K0 : Hp) (b : BdD) (p : PrD) (si dx : Addr) (now : Int) (M : List (Addr × HO)) (l : LineD), vs = [.ref si, .str l.name] ∧ Own K A P S K0 H b p ((si, siI K A P dx now) :: M) ∧ l ∈ S.ls ∧
  ∀ H', Own K A P S K0 H' (maskB b l.name false) p ((si, siI K A P dx now) :: M) → Q (.bl (b.dis l.name)) H'
def sp_Single_set_flag (K : PySem.W.Frag) : Sp := fun vs H Q _ => ∃ (A : AdB) (P : AdP) (S : SetD) (K0 : Hp) (b : BdD) (p : PrD) (si dx : Addr) (now : Int) (M : List (Addr × HO)) (f : Nat), vs = [.ref si, .int (f : Nat)] ∧ Own K A P S K0 H b p ((si, siI K A P dx now) :: M) ∧ f ≤ 7 ∧
  ∀ H', Own K A P S K0 H' (flagB b f true) p ((si, siI K A P dx now) :: M) → Q (.bl (!b.fl.getD f false)) H'
def sp_Single_clear_flag (K : PySem.W.Frag) : Sp := fun vs H Q _ => ∃ (A : AdB) (P : AdP) (S : SetD) (K0 : Hp) (b : BdD) (p : PrD) (si dx : Addr) (now : Int) (M : List (Addr × HO)) (f : Nat), vs = [.ref si, .int (f : Nat)] ∧ Own K A P S K0 H b p ((si, siI K A P dx now) :: M) ∧ f ≤ 7 ∧
  ∀ H', Own K A P S K0 H' (flagB b f false) p ((si, siI K A P dx now) :: M) → Q (.bl (b.fl.getD f false)) H'
def sp_Single_waiting (K : PySem.W.Frag) : Sp := fun vs H Q _ => ∃ (A : AdB) (P : AdP) (S : SetD) (K0 : Hp) (b : BdD) (p : PrD) (si dx : Addr) (now : Int) (M : List (Addr × HO)), vs = [.ref si] ∧ Own K A P S K0 H b p ((si, siI K A P dx now) :: M) ∧ 
  ∀ K1 H' a ev, Same K0 K1 → Own K A P S K1 H' b p ((si, siI K A P dx now) :: M) → K1 a = some (.lst ev) → ev = nmsV ((linesO S).filter (waitsB b)) → Q (.ref a) H'
def sp_Single_masked (K : PySem.W.Frag) : Sp := fun vs H Q _ => ∃ (A : AdB) (P : AdP) (S : SetD) (K0 : Hp) (b : BdD) (p : PrD) (si dx : Addr) (now : Int) (M : List (Addr × HO)), vs = [.ref si] ∧ Own K A P S K0 H b p ((si, siI K A P dx now) :: M) ∧ 
  ∀ K1 H' a ev, Same K0 K1 → Own K A P S K1 H' b p ((si, siI K A P dx now) :: M) → K1 a = some (.lst ev) → ev = nmsV ((linesO S).filter (disL b)) → Q (.ref a) H'
def sp_Single_highs (K : PySem.W.Frag) : Sp := fun vs H Q _ => ∃ (A : AdB) (P : AdP) (S : SetD) (K0 : Hp) (b : BdD) (p : PrD) (si dx : Addr) (now : Int) (M : List (Addr × HO)), vs = [.ref si] ∧ Own K A P S K0 H b p ((si, siI K A P dx now) :: M) ∧ 
  ∀ K1 H' a ev, Same K0 K1 → Own K A P S K1 H' b p ((si, siI K A P dx now) :: M) → K1 a = some (.lst ev) → ev = nmsV ((linesO S).filter (highL b)) → Q (.ref a) H'
def sp_Single_flags_up (K : PySem.W.Frag) : Sp := fun vs H Q _ => ∃ (A : AdB) (P : AdP) (S : SetD) (K0 : Hp) (b : BdD) (p : PrD) (si dx : Addr) (now : Int) (M : List (Addr × HO)), vs = [.ref si] ∧ Own K A P S K0 H b p ((si, siI K A P dx now) :: M) ∧ 
  ∀ K1 H' a ev, Same K0 K1 → Own K A P S K1 H' b p ((si, siI K A P dx now) :: M) → K1 a = some (.lst ev) → ev = (upF b).map V.int → Q (.ref a) H'
def sp_Single_calls (K : PySem.W.Frag) : Sp := fun vs H Q _ => ∃ (A : AdB) (P : AdP) (S : SetD) (K0 : Hp) (b : BdD) (p : PrD) (si dx : Addr) (now : Int) (M : List (Addr × HO)), vs = [.ref si] ∧ Own K A P S K0 H b p ((si, siI K A P dx now) :: M) ∧ p.stack.length ≤ 3900 ∧
  ∀ K1 H' a ev, Same K0 K1 → Own K A P S K1 H' b p ((si, siI K A P dx now) :: M) → K1 a = some (.lst ev) → Paired (C3At K K1) ev p.stack → Q (.ref a) H'
def sp_Single_queue (K : PySem.W.Frag) : Sp := fun vs H Q _ => ∃ (A : AdB) (P : AdP) (S : SetD) (K0 : Hp) (b : BdD) (p : PrD) (si dx : Addr) (now : Int) (M : List (Addr × HO)), vs = [.ref si] ∧ Own K A P S K0 H b p ((si, siI K A P dx now) :: M) ∧ p.rows.length ≤ 3900 ∧
  ∀ K1 H' a ev, Same K0 K1 → Own K A P S K1 H' b p ((si, siI K A P dx now) :: M) → K1 a = some (.lst ev) → Paired (RowAt K K1) ev p.rows → Q (.ref a) H'
def sp_Single_now (K : PySem.W.Frag) : Sp := fun vs H Q _ => ∃ (A : AdB) (P : AdP) (S : SetD) (K0 : Hp) (b : BdD) (p : PrD) (si dx : Addr) (now : Int) (M : List (Addr × HO)), vs = [.ref si] ∧ Own K A P S K0 H b p ((si, siI K A P dx now) :: M) ∧ Q (.int now) H
def sp_Single_bar (K : PySem.W.Frag) : Sp := fun vs H Q _ => ∃ (A : AdB) (P : AdP) (S : SetD) (K0 : Hp) (b : BdD) (p : PrD) (si dx : Addr) (now : Int) (M : List (Addr × HO)), vs = [.ref si] ∧ Own K A P S K0 H b p ((si, siI K A P dx now) :: M) ∧ Q (.int p.bar) H
def sp_Single_spent (K : PySem.W.Frag) : Sp := fun vs H Q _ => ∃ (A : AdB) (P : AdP) (S : SetD) (K0 : Hp) (b : BdD) (p : PrD) (si dx : Addr) (now : Int) (M : List (Addr × HO)), vs = [.ref si] ∧ Own K A P S K0 H b p ((si, siI K A P dx now) :: M) ∧
  ∀ K1 H' a, Same K0 K1 → Own K A P S K1 H' b p ((si, siI K A P dx now) :: M) → K1 a = some (.tup [.int p.c0, .int p.c1, .int p.c2, .int p.c3]) → Q (.ref a) H'
def sp_Single_tick (K : PySem.W.Frag) : Sp := fun vs H Q _ => ∃ (A : AdB) (P : AdP) (S : SetD) (K0 : Hp) (b : BdD) (p : PrD) (si dx : Addr) (now : Int) (M : List (Addr × HO)), vs = [.ref si] ∧ Own K A P S K0 H b p ((si, siI K A P dx now) :: M) ∧ (∀ c ∈ p.stack, CallOk S c) ∧ RowsIn S.ws p.rows ∧ p.rows.length ≤ 3600 ∧ p.stack.length ≤ 12 ∧
  ∀ K1 H' a ev, Same K0 K1 → Own K A P S K1 H' (tickA S.ws S b p).1 (tickA S.ws S b p).2.1 ((si, siI K A P dx (now + 1)) :: M) → K1 a = some (.lst ev) → Paired (EvAt K K1) ev (tickA S.ws S b p).2.2 → Q (.ref a) H'
def sp_Single_init (K : PySem.W.Frag) : Sp := fun vs H Q _ => ∃ (x dx su : Addr) (S : SetD) (K0 : Hp) (M : List (Addr × HO)), vs = [.ref x, .ref su] ∧ Sep K0 H ((x, .ins (aC "Single" K) dx []) :: M) ∧ SetupAt K K0 su S ∧ SetOk S ∧
  ∀ K1 H' A P, Same K0 K1 → A.su = su → Own K A P S K1 H' bd0 pr0 ((x, siI K A P dx 0) :: M) → Q .non H'
section
variable {K : PySem.W.Frag} {A : AdB} {P : AdP} {S : SetD} {K0 K1 H H' : Hp} {b b' : BdD} {p p' : PrD} {M M' : List (Addr × HO)} {a : Addr} {x y : HO} {e f : Addr × HO}
theorem Own.fr (h : Own K A P S K0 H b p ((a, x) :: M)) : H a = some x := by
  obtain ⟨sv, rv, h1, h2, sp⟩ := h.ex
  exact sp.up9.c0
theorem Own.prc (h : Own K A P S K0 H b p M) : H P.pr = some (prI K A P p.bar) := by
  obtain ⟨sv, rv, h1, h2, sp⟩ := h.ex
  exact sp.c5
theorem Own.same (h : Own K A P S K0 H b p M) : Same K0 H := by
  obtain ⟨sv, rv, h1, h2, sp⟩ := h.ex
  exact sp.ext
theorem Own.putM (h : Own K A P S K0 H b p ((a, x) :: M)) : Own K A P S K0 (upd H a y) b p ((a, y) :: M) := by
  obtain ⟨sv, rv, h1, h2, sp⟩ := h.ex
  exact ⟨h.fb, h.fj, h.fl, sv, rv, h1, h2, sp.up9.put0.dn9⟩
theorem Own.swapM (h : Own K A P S K0 H b p (e :: f :: M)) : Own K A P S K0 H b p (f :: e :: M) := by
  obtain ⟨sv, rv, h1, h2, sp⟩ := h.ex
  exact ⟨h.fb, h.fj, h.fl, sv, rv, h1, h2, sp.perm (.cons _ (.cons _ (.cons _ (.cons _ (.cons _ (.cons _ (.cons _ (.cons _ (.cons _ (.swap _ _ _))))))))))⟩
theorem Own.permM (h : Own K A P S K0 H b p M) (q : M'.Perm M) : Own K A P S K0 H b p M' := by
  obtain ⟨sv, rv, h1, h2, sp⟩ := h.ex
  exact ⟨h.fb, h.fj, h.fl, sv, rv, h1, h2, sp.perm (.cons _ (.cons _ (.cons _ (.cons _ (.cons _ (.cons _ (.cons _ (.cons _ (.cons _ q)))))))))⟩
theorem Own.freezeM (h : Own K A P S K0 H b p ((a, x) :: M)) : Own K A P S (upd K0 a x) H b p M ∧ Same K0 (upd K0 a x) := by
  obtain ⟨sv, rv, h1, h2, sp⟩ := h.ex
  have g := sp.up9.new0
  exact ⟨h.mk2 g h.fl ⟨sv, rv, h1.mono fun _ _ z => CallAt.up g z, h2.mono fun _ _ z => RowAt.up g z, sp.up9.freeze⟩, g⟩
theorem Own.ownM' (h : Own K A P S K0 H b p M) (g : Same H H') (e : H a = none) (e' : H' a = some x) : Own K A P S K0 H' b p ((a, x) :: M) := by
  obtain ⟨sv, rv, h1, h2, sp⟩ := h.ex
  exact ⟨h.fb, h.fj, h.fl, sv, rv, h1, h2, (sp.own' g e e').dn9⟩
theorem Own.keepM (h : Own K A P S K0 H b p M) (e : H a = none) : Own K A P S (upd K0 a x) (upd H a x) b p M ∧ Same K0 (upd K0 a x) := (h.ownM' (same_new (Same.refl H) e) e upd_same).freezeM
theorem Own.dropM (h : Own K A P S K0 H b p M) (e : H a = none) : Own K A P S K0 (upd H a x) b p M := h.grow (same_new (Same.refl H) e)
end
structure TakeOk (S : SetD) (b : BdD) (p : PrD) (z : BdD × PrD × List Ev) : Prop where
  calls : ∀ c ∈ z.2.1.stack, CallOk S c
  ri : RowsIn S.ws z.2.1.rows
  rl : z.2.1.rows.length ≤ p.rows.length + 8
  sl : z.2.1.stack.length ≤ p.stack.length + 1
  el : z.2.2.length ≤ 2
theorem takeA_ok {S : SetD} {b : BdD} {p : PrD} {ls : List LineD} (ok : SetOk S) (hc : ∀ c ∈ p.stack, CallOk S c) (ri : RowsIn S.ws p.rows) (hls : ∀ l ∈ ls, l ∈ S.ls) : TakeOk S b p (takeA S.ws b p ls) := by
  cases ls with
  | nil => exact ⟨hc, ri, Nat.le_add_right _ _, Nat.le_add_right _ _, by simp [takeA]⟩
  | cons l ls =>
    by_cases hb : floorA p < l.rank
    · rw [show takeA S.ws b p (l :: ls) = ((goA S.ws (beginB b l) { p with stack := p.stack ++ [⟨l, 0, 0, p.bar⟩] }).1, (goA S.ws (beginB b l) { p with stack := p.stack ++ [⟨l, 0, 0, p.bar⟩] }).2.1, .bgn l :: (goA S.ws (beginB b l) { p with stack := p.stack ++ [⟨l, 0, 0, p.bar⟩] }).2.2) from if_pos hb]
      have G := goA_ok (b := beginB b l) (p := { p with stack := p.stack ++ [⟨l, 0, 0, p.bar⟩] }) ok rfl (hls l List.mem_cons_self) (Nat.zero_le _) rfl hc ri
      refine ⟨G.calls, G.ri, G.rl, ?_, ?_⟩
      · rcases G.sl with ⟨z, _⟩ | ⟨_, _, z⟩
        · simp only [z]
          omega
        · exact Nat.le_of_eq z
      · rcases G.sl with ⟨_, z⟩ | ⟨_, z, _⟩
        · simp only [List.length_cons, z]
          omega
        · simp only [z]
          simp
    · rw [show takeA S.ws b p (l :: ls) = (b, p, []) from if_neg hb]
      exact ⟨hc, ri, Nat.le_add_right _ _, Nat.le_add_right _ _, by simp⟩
theorem goA_evs {ws : List WorkD} {b : BdD} {p : PrD} : (goA ws b p).2.2.length ≤ 1 := by
  unfold goA
  split
  · simp
  · simp only
    split <;> simp
theorem onA_evs {ws : List WorkD} : ∀ (n : Nat) (b : BdD) (p : PrD), (onA ws n b p).2.2.length ≤ n
  | 0, _, _ => Nat.le_refl _
  | n + 1, b, p => by
    rw [onA]
    split
    · simp only [List.length_append]
      have z1 := goA_evs (ws := ws) (b := b) (p := p)
      have z2 := onA_evs (ws := ws) n (goA ws b p).1 (goA ws b p).2.1
      omega
    · simp
theorem goOn_evs {ws : List WorkD} {b : BdD} {p : PrD} : (goOn ws b p).2.2.length ≤ p.stack.length + 1 := by
  unfold goOn
  simp only [List.length_append]
  have z1 := onA_evs (ws := ws) p.stack.length b p
  have z2 := spendA_evs (ws := ws) (b := (onA ws p.stack.length b p).1) (p := (onA ws p.stack.length b p).2.1)
  omega
theorem tickA_eq {S : SetD} {b : BdD} {p : PrD} : tickA S.ws S b p = ((goOn S.ws (takeA S.ws b p ((linesO S).filter (readyB b))).1 (takeA S.ws b p ((linesO S).filter (readyB b))).2.1).1, (goOn S.ws (takeA S.ws b p ((linesO S).filter (readyB b))).1 (takeA S.ws b p ((linesO S).filter (readyB b))).2.1).2.1, (takeA S.ws b p ((linesO S).filter (readyB b))).2.2 ++ (goOn S.ws (takeA S.ws b p ((linesO S).filter (readyB b))).1 (takeA S.ws b p ((linesO S).filter (readyB b))).2.1).2.2) := rfl

section
variable {P : Program} {w : World} {K : PySem.W.Frag} {mg : Str → Option Value} {base : Heap}

abbrev N_Single_ring : List Str := ["self", "line"]
theorem sc_Single_ring : FnScope N_Single_ring ["self", "line"] (C8.fnScope s_Single_ring) := C8.fnScope_by (by decide +kernel)
theorem ok_Single_ring {fd : FuncData} (T : Txt K mg) (F : FunD K "ring" "Single.ring" (C8.fnArgs s_Single_ring) (C8.fnBody s_Single_ring) (C8.fnScope s_Single_ring) [] [] (He.ma K (aC "Single" K) "ring") fd) (c_ring : C8.Met P w K mg base 3 (aC "Board" K) "ring" (sp_Board_ring K) []) :
    C8.Met P w K mg base 4 (aC "Single" K) "ring" (sp_Single_ring K) [] := by
  refine C8.met0 T.cl_Single T.m_Single_ring (fun_c8 F) (F.bindsN fun _ _ _ _ _ _ us hl => match us, hl with | [_, _], _ => rfl) sc_Single_ring (fun vs H Q E h => ?_) (fun cdv A outer s H vs Q E hr h => ?_)
  · obtain ⟨_, _, _, _, _, _, _, _, _, _, _, rfl, _⟩ := h
    rfl
  · have nd := sc_Single_ring.nd
    have hu := hu_of hr
    obtain ⟨A, P, S, K0, b, p, si, dx, now, M, l, rfl, ow, hl, q⟩ := h
    refine ⟨_, (pss_one (ps_ret (C8.pe_mt c_ring hr (by decide) (pe_fld (pv 0) rfl) (pa_cons (pv 1) pa_nil)))), ?_⟩
    have hsi := ow.fr
    obtain ⟨sv, rv, h1, h2, sp⟩ := ow.ex
    have hbo := sp.ext _ _ ow.fb.at_
    exact ⟨_, rfl, _, _, _, _, _, rfl, hsi, T.cl_Single, T.t_Single_board, rfl, A.bo, A.db, _, rfl, hbo, rfl, _, rfl, A, S, l, K0, b, _, rfl, ⟨ow.fb, ow.fl, sp⟩, hl, fun H1 ow1 => q H1 ⟨ow.fb, ow.fj, ow1.fl, sv, rv, h1, h2, ow1.sp⟩⟩
abbrev N_Single_mask : List Str := ["self", "line"]
theorem sc_Single_mask : FnScope N_Single_mask ["self", "line"] (C8.fnScope s_Single_mask) := C8.fnScope_by (by decide +kernel)
theorem ok_Single_mask {fd : FuncData} (T : Txt K mg) (F : FunD K "mask" "Single.mask" (C8.fnArgs s_Single_mask) (C8.fnBody s_Single_mask) (C8.fnScope s_Single_mask) [] [] (He.ma K (aC "Single" K) "mask") fd) (c_mask : C8.Met P w K mg base 3 (aC "Board" K) "mask" (sp_Board_mask K) []) :
    C8.Met P w K mg base 4 (aC "Single" K) "mask" (sp_Single_mask K) [] := by
  refine C8.met0 T.cl_Single T.m_Single_mask (fun_c8 F) (F.bindsN fun _ _ _ _ _ _ us hl => match us, hl with | [_, _], _ => rfl) sc_Single_mask (fun vs H Q E h => ?_) (fun cdv A outer s H vs Q E hr h => ?_)
  · obtain ⟨_, _, _, _, _, _, _, _, _, _, _, rfl, _⟩ := h
    rfl
  · have nd := sc_Single_mask.nd
    have hu := hu_of hr
    obtain ⟨A, P, S, K0, b, p, si, dx, now, M, l, rfl, ow, hl, q⟩ := h
    refine ⟨_, (pss_one (ps_ret (C8.pe_mt c_mask hr (by decide) (pe_fld (pv 0) rfl) (pa_cons (pv 1) pa_nil)))), ?_⟩
    have hsi := ow.fr
    obtain ⟨sv, rv, h1, h2, sp⟩ := ow.ex
    have hbo := sp.ext _ _ ow.fb.at_
    exact ⟨_, rfl, _, _, _, _, _, rfl, hsi, T.cl_Single, T.t_Single_board, rfl, A.bo, A.db, _, rfl, hbo, rfl, _, rfl, A, S, l, K0, b, _, rfl, ⟨ow.fb, ow.fl, sp⟩, hl, fun H1 ow1 => q H1 ⟨ow.fb, ow.fj, ow1.fl, sv, rv, h1, h2, ow1.sp⟩⟩
abbrev N_Single_unmask : List Str := ["self", "line"]
theorem sc_Single_unmask : FnScope N_Single_unmask ["self", "line"] (C8.fnScope s_Single_unmask) := C8.fnScope_by (by decide +kernel)
theorem ok_Single_unmask {fd : FuncData} (T : Txt K mg) (F : FunD K "unmask" "Single.unmask" (C8.fnArgs s_Single_unmask) (C8.fnBody s_Single_unmask) (C8.fnScope s_Single_unmask) [] [] (He.ma K (aC "Single" K) "unmask") fd) (c_unmask : C8.Met P w K mg base 3 (aC "Board" K) "unmask" (sp_Board_unmask K) []) :
    C8.Met P w K mg base 4 (aC "Single" K) "unmask" (sp_Single_unmask K) [] := by
  refine C8.met0 T.cl_Single T.m_Single_unmask (fun_c8 F) (F.bindsN fun _ _ _ _ _ _ us hl => match us, hl with | [_, _], _ => rfl) sc_Single_unmask (fun vs H Q E h => ?_) (fun cdv A outer s H vs Q E hr h => ?_)
  · obtain ⟨_, _, _, _, _, _, _, _, _, _, _, rfl, _⟩ := h
    rfl
  · have nd := sc_Single_unmask.nd
    have hu := hu_of hr
    obtain ⟨A, P, S, K0, b, p, si, dx, now, M, l, rfl, ow, hl, q⟩ := h
    refine ⟨_, (pss_one (ps_ret (C8.pe_mt c_unmask hr (by decide) (pe_fld (pv 0) rfl) (pa_cons (pv 1) pa_nil)))), ?_⟩
    have hsi := ow.fr
    obtain ⟨sv, rv, h1, h2, sp⟩ := ow.ex
    have hbo := sp.ext _ _ ow.fb.at_
    exact ⟨_, rfl, _, _, _, _, _, rfl, hsi, T.cl_Single, T.t_Single_board, rfl, A.bo, A.db, _, rfl, hbo, rfl, _, rfl, A, S, l, K0, b, _, rfl, ⟨ow.fb, ow.fl, sp⟩, hl, fun H1 ow1 => q H1 ⟨ow.fb, ow.fj, ow1.fl, sv, rv, h1, h2, ow1.sp⟩⟩
abbrev N_Single_quiet : List Str := ["self", "line"]
theorem sc_Single_quiet : FnScope N_Single_quiet ["self", "line"] (C8.fnScope s_Single_quiet) := C8.fnScope_by (by decide +kernel)
theorem ok_Single_quiet {fd : FuncData} (T : Txt K mg) (F : FunD K "quiet" "Single.quiet" (C8.fnArgs s_Single_quiet) (C8.fnBody s_Single_quiet) (C8.fnScope s_Single_quiet) [] [] (He.ma K (aC "Single" K) "quiet") fd) (c_quiet : C8.Met P w K mg base 5 (aC "Board" K) "quiet" (sp_Board_quiet K) []) :
    C8.Met P w K mg base 6 (aC "Single" K) "quiet" (sp_Single_quiet K) [] := by
  refine C8.met0 T.cl_Single T.m_Single_quiet (fun_c8 F) (F.bindsN fun _ _ _ _ _ _ us hl => match us, hl with | [_, _], _ => rfl) sc_Single_quiet (fun vs H Q E h => ?_) (fun cdv A outer s H vs Q E hr h => ?_)
  · obtain ⟨_, _, _, _, _, _, _, _, _, _, _, rfl, _⟩ := h
    rfl
  · have nd := sc_Single_quiet.nd
    have hu := hu_of hr
    obtain ⟨A, P, S, K0, b, p, si, dx, now, M, l, rfl, ow, hl, hv, q⟩ := h
    refine ⟨_, (pss_one (ps_ret (C8.pe_mt c_quiet hr (by decide) (pe_fld (pv 0) rfl) (pa_cons (pv 1) pa_nil)))), ?_⟩
    have hsi := ow.fr
    obtain ⟨sv, rv, h1, h2, sp⟩ := ow.ex
    have hbo := sp.ext _ _ ow.fb.at_
    exact ⟨_, rfl, _, _, _, _, _, rfl, hsi, T.cl_Single, T.t_Single_board, rfl, A.bo, A.db, _, rfl, hbo, rfl, _, rfl, A, S, l, K0, b, _, rfl, ⟨ow.fb, ow.fl, sp⟩, hl, hv, fun H1 ow1 => q H1 ⟨ow.fb, ow.fj, ow1.fl, sv, rv, h1, h2, ow1.sp⟩⟩
abbrev N_Single_set_flag : List Str := ["self", "flag"]
theorem sc_Single_set_flag : FnScope N_Single_set_flag ["self", "flag"] (C8.fnScope s_Single_set_flag) := C8.fnScope_by (by decide +kernel)
theorem ok_Single_set_flag {fd : FuncData} (T : Txt K mg) (F : FunD K "set_flag" "Single.set_flag" (C8.fnArgs s_Single_set_flag) (C8.fnBody s_Single_set_flag) (C8.fnScope s_Single_set_flag) [] [] (He.ma K (aC "Single" K) "set_flag") fd) (c_set_flag : C8.Met P w K mg base 3 (aC "Board" K) "set_flag" (sp_Board_set_flag K) []) :
    C8.Met P w K mg base 4 (aC "Single" K) "set_flag" (sp_Single_set_flag K) [] := by
  refine C8.met0 T.cl_Single T.m_Single_set_flag (fun_c8 F) (F.bindsN fun _ _ _ _ _ _ us hl => match us, hl with | [_, _], _ => rfl) sc_Single_set_flag (fun vs H Q E h => ?_) (fun cdv A outer s H vs Q E hr h => ?_)
  · obtain ⟨_, _, _, _, _, _, _, _, _, _, _, rfl, _⟩ := h
    rfl
  · have nd := sc_Single_set_flag.nd
    have hu := hu_of hr
    obtain ⟨A, P, S, K0, b, p, si, dx, now, M, f, rfl, ow, hl, q⟩ := h
    refine ⟨_, (pss_one (ps_ret (C8.pe_mt c_set_flag hr (by decide) (pe_fld (pv 0) rfl) (pa_cons (pv 1) pa_nil)))), ?_⟩
    have hsi := ow.fr
    obtain ⟨sv, rv, h1, h2, sp⟩ := ow.ex
    have hbo := sp.ext _ _ ow.fb.at_
    exact ⟨_, rfl, _, _, _, _, _, rfl, hsi, T.cl_Single, T.t_Single_board, rfl, A.bo, A.db, _, rfl, hbo, rfl, _, rfl, A, S, f, K0, b, _, rfl, ⟨ow.fb, ow.fl, sp⟩, hl, fun H1 ow1 => q H1 ⟨ow.fb, ow.fj, ow1.fl, sv, rv, h1, h2, ow1.sp⟩⟩
abbrev N_Single_clear_flag : List Str := ["self", "flag"]
theorem sc_Single_clear_flag : FnScope N_Single_clear_flag ["self", "flag"] (C8.fnScope s_Single_clear_flag) := C8.fnScope_by (by decide +kernel)
theorem ok_Single_clear_flag {fd : FuncData} (T : Txt K mg) (F : FunD K "clear_flag" "Single.clear_flag" (C8.fnArgs s_Single_clear_flag) (C8.fnBody s_Single_clear_flag) (C8.fnScope s_Single_clear_flag) [] [] (He.ma K (aC "Single" K) "clear_flag") fd) (c_clear_flag : C8.Met P w K mg base 3 (aC "Board" K) "clear_flag" (sp_Board_clear_flag K) []) :
    C8.Met P w K mg base 4 (aC "Single" K) "clear_flag" (sp_Single_clear_flag K) [] := by
  refine C8.met0 T.cl_Single T.m_Single_clear_flag (fun_c8 F) (F.bindsN fun _ _ _ _ _ _ us hl => match us, hl with | [_, _], _ => rfl) sc_Single_clear_flag (fun vs H Q E h => ?_) (fun cdv A outer s H vs Q E hr h => ?_)
  · obtain ⟨_, _, _, _, _, _, _, _, _, _, _, rfl, _⟩ := h
    rfl
  · have nd := sc_Single_clear_flag.nd
    have hu := hu_of hr
    obtain ⟨A, P, S, K0, b, p, si, dx, now, M, f, rfl, ow, hl, q⟩ := h
    refine ⟨_, (pss_one (ps_ret (C8.pe_mt c_clear_flag hr (by decide) (pe_fld (pv 0) rfl) (pa_cons (pv 1) pa_nil)))), ?_⟩
    have hsi := ow.fr
    obtain ⟨sv, rv, h1, h2, sp⟩ := ow.ex
    have hbo := sp.ext _ _ ow.fb.at_
    exact ⟨_, rfl, _, _, _, _, _, rfl, hsi, T.cl_Single, T.t_Single_board, rfl, A.bo, A.db, _, rfl, hbo, rfl, _, rfl, A, S, f, K0, b, _, rfl, ⟨ow.fb, ow.fl, sp⟩, hl, fun H1 ow1 => q H1 ⟨ow.fb, ow.fj, ow1.fl, sv, rv, h1, h2, ow1.sp⟩⟩
abbrev N_Single_waiting : List Str := ["self"]
theorem sc_Single_waiting : FnScope N_Single_waiting ["self"] (C8.fnScope s_Single_waiting) := C8.fnScope_by (by decide +kernel)
theorem ok_Single_waiting {fd : FuncData} (T : Txt K mg) (F : FunD K "waiting" "Single.waiting" (C8.fnArgs s_Single_waiting) (C8.fnBody s_Single_waiting) (C8.fnScope s_Single_waiting) [] [] (prA "Single" "waiting" K) fd) (c_waiting_lines : C8.Met P w K mg base 6 (aC "Board" K) "waiting_lines" (sp_Board_waiting_lines K) []) :
    FnP P w K mg base 7 (prA "Single" "waiting" K) (sp_Single_waiting K) := by
  refine fnP_mk (fun_c8 F) (F.bindsN fun _ _ _ _ _ _ us hl => match us, hl with | [_], _ => rfl) sc_Single_waiting (fun vs H Q E h => ?_) (fun cdv A outer s H vs Q E hr h => ?_)
  · obtain ⟨_, _, _, _, _, _, _, _, _, _, rfl, _⟩ := h
    rfl
  · have nd := sc_Single_waiting.nd
    have hu := hu_of hr
    obtain ⟨A, P, S, K0, b, p, si, dx, now, M, rfl, ow, q⟩ := h
    refine ⟨_, (pss_one (ps_ret (C8.pe_mt0 c_waiting_lines hr (by decide) (pe_fld (pv 0) rfl)))), ?_⟩
    have hsi := ow.fr
    obtain ⟨sv, rv, h1, h2, sp⟩ := ow.ex
    have hbo := sp.ext _ _ ow.fb.at_
    refine ⟨_, rfl, _, _, _, _, _, rfl, hsi, T.cl_Single, T.t_Single_board, rfl, A.bo, A.db, _, rfl, hbo, rfl, A, S, K0, b, _, rfl, ⟨ow.fb, ow.fl, sp⟩, fun a H1 g ha ha1 => ?_⟩
    have owf := (ow.ownM' g ha ha1).freezeM
    exact q _ _ a _ owf.2 owf.1 upd_same rfl
abbrev N_Single_masked : List Str := ["self"]
theorem sc_Single_masked : FnScope N_Single_masked ["self"] (C8.fnScope s_Single_masked) := C8.fnScope_by (by decide +kernel)
theorem ok_Single_masked {fd : FuncData} (T : Txt K mg) (F : FunD K "masked" "Single.masked" (C8.fnArgs s_Single_masked) (C8.fnBody s_Single_masked) (C8.fnScope s_Single_masked) [] [] (prA "Single" "masked" K) fd) (c_disabled_lines : C8.Met P w K mg base 3 (aC "Board" K) "disabled_lines" (sp_Board_disabled_lines K) []) :
    FnP P w K mg base 4 (prA "Single" "masked" K) (sp_Single_masked K) := by
  refine fnP_mk (fun_c8 F) (F.bindsN fun _ _ _ _ _ _ us hl => match us, hl with | [_], _ => rfl) sc_Single_masked (fun vs H Q E h => ?_) (fun cdv A outer s H vs Q E hr h => ?_)
  · obtain ⟨_, _, _, _, _, _, _, _, _, _, rfl, _⟩ := h
    rfl
  · have nd := sc_Single_masked.nd
    have hu := hu_of hr
    obtain ⟨A, P, S, K0, b, p, si, dx, now, M, rfl, ow, q⟩ := h
    refine ⟨_, (pss_one (ps_ret (C8.pe_mt0 c_disabled_lines hr (by decide) (pe_fld (pv 0) rfl)))), ?_⟩
    have hsi := ow.fr
    obtain ⟨sv, rv, h1, h2, sp⟩ := ow.ex
    have hbo := sp.ext _ _ ow.fb.at_
    refine ⟨_, rfl, _, _, _, _, _, rfl, hsi, T.cl_Single, T.t_Single_board, rfl, A.bo, A.db, _, rfl, hbo, rfl, A, S, K0, b, _, rfl, ⟨ow.fb, ow.fl, sp⟩, fun a H1 g ha ha1 => ?_⟩
    have owf := (ow.ownM' g ha ha1).freezeM
    exact q _ _ a _ owf.2 owf.1 upd_same rfl
abbrev N_Single_highs : List Str := ["self"]
theorem sc_Single_highs : FnScope N_Single_highs ["self"] (C8.fnScope s_Single_highs) := C8.fnScope_by (by decide +kernel)
theorem ok_Single_highs {fd : FuncData} (T : Txt K mg) (F : FunD K "highs" "Single.highs" (C8.fnArgs s_Single_highs) (C8.fnBody s_Single_highs) (C8.fnScope s_Single_highs) [] [] (prA "Single" "highs" K) fd) (c_high_lines : C8.Met P w K mg base 6 (aC "Board" K) "high_lines" (sp_Board_high_lines K) []) :
    FnP P w K mg base 7 (prA "Single" "highs" K) (sp_Single_highs K) := by
  refine fnP_mk (fun_c8 F) (F.bindsN fun _ _ _ _ _ _ us hl => match us, hl with | [_], _ => rfl) sc_Single_highs (fun vs H Q E h => ?_) (fun cdv A outer s H vs Q E hr h => ?_)
  · obtain ⟨_, _, _, _, _, _, _, _, _, _, rfl, _⟩ := h
    rfl
  · have nd := sc_Single_highs.nd
    have hu := hu_of hr
    obtain ⟨A, P, S, K0, b, p, si, dx, now, M, rfl, ow, q⟩ := h
    refine ⟨_, (pss_one (ps_ret (C8.pe_mt0 c_high_lines hr (by decide) (pe_fld (pv 0) rfl)))), ?_⟩
    have hsi := ow.fr
    obtain ⟨sv, rv, h1, h2, sp⟩ := ow.ex
    have hbo := sp.ext _ _ ow.fb.at_
    refine ⟨_, rfl, _, _, _, _, _, rfl, hsi, T.cl_Single, T.t_Single_board, rfl, A.bo, A.db, _, rfl, hbo, rfl, A, S, K0, b, _, rfl, ⟨ow.fb, ow.fl, sp⟩, fun a H1 g ha ha1 => ?_⟩
    have owf := (ow.ownM' g ha ha1).freezeM
    exact q _ _ a _ owf.2 owf.1 upd_same rfl
abbrev N_Single_flags_up : List Str := ["self"]
theorem sc_Single_flags_up : FnScope N_Single_flags_up ["self"] (C8.fnScope s_Single_flags_up) := C8.fnScope_by (by decide +kernel)
theorem ok_Single_flags_up {fd : FuncData} (T : Txt K mg) (F : FunD K "flags_up" "Single.flags_up" (C8.fnArgs s_Single_flags_up) (C8.fnBody s_Single_flags_up) (C8.fnScope s_Single_flags_up) [] [] (prA "Single" "flags_up" K) fd) (c_raised_flags : C8.Met P w K mg base 1 (aC "Board" K) "raised_flags" (sp_Board_raised_flags K) []) :
    FnP P w K mg base 2 (prA "Single" "flags_up" K) (sp_Single_flags_up K) := by
  refine fnP_mk (fun_c8 F) (F.bindsN fun _ _ _ _ _ _ us hl => match us, hl with | [_], _ => rfl) sc_Single_flags_up (fun vs H Q E h => ?_) (fun cdv A outer s H vs Q E hr h => ?_)
  · obtain ⟨_, _, _, _, _, _, _, _, _, _, rfl, _⟩ := h
    rfl
  · have nd := sc_Single_flags_up.nd
    have hu := hu_of hr
    obtain ⟨A, P, S, K0, b, p, si, dx, now, M, rfl, ow, q⟩ := h
    refine ⟨_, (pss_one (ps_ret (C8.pe_mt0 c_raised_flags hr (by decide) (pe_fld (pv 0) rfl)))), ?_⟩
    have hsi := ow.fr
    obtain ⟨sv, rv, h1, h2, sp⟩ := ow.ex
    have hbo := sp.ext _ _ ow.fb.at_
    refine ⟨_, rfl, _, _, _, _, _, rfl, hsi, T.cl_Single, T.t_Single_board, rfl, A.bo, A.db, _, rfl, hbo, rfl, A, S, K0, b, _, rfl, ⟨ow.fb, ow.fl, sp⟩, fun a H1 g ha ha1 => ?_⟩
    have owf := (ow.ownM' g ha ha1).freezeM
    exact q _ _ a _ owf.2 owf.1 upd_same rfl
abbrev N_Single_calls : List Str := ["self"]
theorem sc_Single_calls : FnScope N_Single_calls ["self"] (C8.fnScope s_Single_calls) := C8.fnScope_by (by decide +kernel)
theorem ok_Single_calls {fd : FuncData} (T : Txt K mg) (F : FunD K "calls" "Single.calls" (C8.fnArgs s_Single_calls) (C8.fnBody s_Single_calls) (C8.fnScope s_Single_calls) [] [] (prA "Single" "calls" K) fd) (c_call_rows : C8.Met P w K mg base 1 (aC "Processor" K) "call_rows" (sp_Processor_call_rows K) []) :
    FnP P w K mg base 2 (prA "Single" "calls" K) (sp_Single_calls K) := by
  refine fnP_mk (fun_c8 F) (F.bindsN fun _ _ _ _ _ _ us hl => match us, hl with | [_], _ => rfl) sc_Single_calls (fun vs H Q E h => ?_) (fun cdv A outer s H vs Q E hr h => ?_)
  · obtain ⟨_, _, _, _, _, _, _, _, _, _, rfl, _⟩ := h
    rfl
  · have nd := sc_Single_calls.nd
    have hu := hu_of hr
    obtain ⟨A, P, S, K0, b, p, si, dx, now, M, rfl, ow, hl, q⟩ := h
    refine ⟨_, (pss_one (ps_ret (C8.pe_mt0 c_call_rows hr (by decide) (pe_fld (pv 0) rfl)))), ?_⟩
    have hsi := ow.fr
    exact ⟨_, rfl, _, _, _, _, _, rfl, hsi, T.cl_Single, T.t_Single_processor, rfl, P.pr, P.dp, _, rfl, ow.prc, rfl, A, P, S, K0, b, p, _, rfl, ow, hl, q⟩
abbrev N_Single_queue : List Str := ["self"]
theorem sc_Single_queue : FnScope N_Single_queue ["self"] (C8.fnScope s_Single_queue) := C8.fnScope_by (by decide +kernel)
theorem ok_Single_queue {fd : FuncData} (T : Txt K mg) (F : FunD K "queue" "Single.queue" (C8.fnArgs s_Single_queue) (C8.fnBody s_Single_queue) (C8.fnScope s_Single_queue) [] [] (prA "Single" "queue" K) fd) (c_work_rows : C8.Met P w K mg base 2 (aC "Processor" K) "work_rows" (sp_Processor_work_rows K) []) :
    FnP P w K mg base 3 (prA "Single" "queue" K) (sp_Single_queue K) := by
  refine fnP_mk (fun_c8 F) (F.bindsN fun _ _ _ _ _ _ us hl => match us, hl with | [_], _ => rfl) sc_Single_queue (fun vs H Q E h => ?_) (fun cdv A outer s H vs Q E hr h => ?_)
  · obtain ⟨_, _, _, _, _, _, _, _, _, _, rfl, _⟩ := h
    rfl
  · have nd := sc_Single_queue.nd
    have hu := hu_of hr
    obtain ⟨A, P, S, K0, b, p, si, dx, now, M, rfl, ow, hl, q⟩ := h
    refine ⟨_, (pss_one (ps_ret (C8.pe_mt0 c_work_rows hr (by decide) (pe_fld (pv 0) rfl)))), ?_⟩
    have hsi := ow.fr
    exact ⟨_, rfl, _, _, _, _, _, rfl, hsi, T.cl_Single, T.t_Single_processor, rfl, P.pr, P.dp, _, rfl, ow.prc, rfl, A, P, S, K0, b, p, _, rfl, ow, hl, q⟩
abbrev N_Single_spent : List Str := ["self"]
theorem sc_Single_spent : FnScope N_Single_spent ["self"] (C8.fnScope s_Single_spent) := C8.fnScope_by (by decide +kernel)
theorem ok_Single_spent {fd : FuncData} (T : Txt K mg) (F : FunD K "spent" "Single.spent" (C8.fnArgs s_Single_spent) (C8.fnBody s_Single_spent) (C8.fnScope s_Single_spent) [] [] (prA "Single" "spent" K) fd) (c_spent_ticks : C8.Met P w K mg base 1 (aC "Processor" K) "spent_ticks" (sp_Processor_spent_ticks K) []) :
    FnP P w K mg base 2 (prA "Single" "spent" K) (sp_Single_spent K) := by
  refine fnP_mk (fun_c8 F) (F.bindsN fun _ _ _ _ _ _ us hl => match us, hl with | [_], _ => rfl) sc_Single_spent (fun vs H Q E h => ?_) (fun cdv A outer s H vs Q E hr h => ?_)
  · obtain ⟨_, _, _, _, _, _, _, _, _, _, rfl, _⟩ := h
    rfl
  · have nd := sc_Single_spent.nd
    have hu := hu_of hr
    obtain ⟨A, P, S, K0, b, p, si, dx, now, M, rfl, ow, q⟩ := h
    refine ⟨_, (pss_one (ps_ret (C8.pe_mt0 c_spent_ticks hr (by decide) (pe_fld (pv 0) rfl)))), ?_⟩
    have hsi := ow.fr
    exact ⟨_, rfl, _, _, _, _, _, rfl, hsi, T.cl_Single, T.t_Single_processor, rfl, P.pr, P.dp, _, rfl, ow.prc, rfl, A, P, S, K0, b, p, _, rfl, ow, q⟩
abbrev N_Single_bar : List Str := ["self"]
theorem sc_Single_bar : FnScope N_Single_bar ["self"] (C8.fnScope s_Single_bar) := C8.fnScope_by (by decide +kernel)
theorem ok_Single_bar {fd : FuncData} (T : Txt K mg) (F : FunD K "bar" "Single.bar" (C8.fnArgs s_Single_bar) (C8.fnBody s_Single_bar) (C8.fnScope s_Single_bar) [] [] (prA "Single" "bar" K) fd) (c_bar_now : C8.Met P w K mg base 1 (aC "Processor" K) "bar_now" (sp_Processor_bar_now K) []) :
    FnP P w K mg base 2 (prA "Single" "bar" K) (sp_Single_bar K) := by
  refine fnP_mk (fun_c8 F) (F.bindsN fun _ _ _ _ _ _ us hl => match us, hl with | [_], _ => rfl) sc_Single_bar (fun vs H Q E h => ?_) (fun cdv A outer s H vs Q E hr h => ?_)
  · obtain ⟨_, _, _, _, _, _, _, _, _, _, rfl, _⟩ := h
    rfl
  · have nd := sc_Single_bar.nd
    have hu := hu_of hr
    obtain ⟨A, P, S, K0, b, p, si, dx, now, M, rfl, ow, q⟩ := h
    refine ⟨_, (pss_one (ps_ret (C8.pe_mt0 c_bar_now hr (by decide) (pe_fld (pv 0) rfl)))), ?_⟩
    have hsi := ow.fr
    exact ⟨_, rfl, _, _, _, _, _, rfl, hsi, T.cl_Single, T.t_Single_processor, rfl, P.pr, P.dp, _, rfl, ow.prc, rfl, A, P, S, K0, b, p, _, rfl, ow, q⟩
abbrev N_Single_now : List Str := ["self"]
theorem sc_Single_now : FnScope N_Single_now ["self"] (C8.fnScope s_Single_now) := C8.fnScope_by (by decide +kernel)
theorem ok_Single_now {fd : FuncData} (T : Txt K mg) (F : FunD K "now" "Single.now" (C8.fnArgs s_Single_now) (C8.fnBody s_Single_now) (C8.fnScope s_Single_now) [] [] (prA "Single" "now" K) fd) :
    FnP P w K mg base 1 (prA "Single" "now" K) (sp_Single_now K) := by
  refine fnP_mk (fun_c8 F) (F.bindsN fun _ _ _ _ _ _ us hl => match us, hl with | [_], _ => rfl) sc_Single_now (fun vs H Q E h => ?_) (fun cdv A outer s H vs Q E hr h => ?_)
  · obtain ⟨_, _, _, _, _, _, _, _, _, _, rfl, _⟩ := h
    rfl
  · have nd := sc_Single_now.nd
    have hu := hu_of hr
    obtain ⟨A, P, S, K0, b, p, si, dx, now, M, rfl, ow, q⟩ := h
    refine ⟨_, (pss_one (ps_ret (pe_fld (pv 0) rfl))), ?_⟩
    have hsi := ow.fr
    exact ⟨_, rfl, _, _, _, _, _, rfl, hsi, T.cl_Single, T.t_Single_now, rfl, q⟩
abbrev N_Single_tick : List Str := ["self", "events"]
theorem sc_Single_tick : FnScope N_Single_tick ["self"] (C8.fnScope s_Single_tick) := C8.fnScope_by (by decide +kernel)
theorem ok_Single_tick {fd : FuncData} (T : Txt K mg) (F : FunD K "tick" "Single.tick" (C8.fnArgs s_Single_tick) (C8.fnBody s_Single_tick) (C8.fnScope s_Single_tick) [] [] (He.ma K (aC "Single" K) "tick") fd) (c_take : C8.Met P w K mg base 9 (aC "Processor" K) "take" (sp_Processor_take K) []) (c_ready_lines : C8.Met P w K mg base 7 (aC "Board" K) "ready_lines" (sp_Board_ready_lines K) []) (c_go_on : C8.Met P w K mg base 10 (aC "Processor" K) "go_on" (sp_Processor_go_on K) []) :
    C8.Met P w K mg base 11 (aC "Single" K) "tick" (sp_Single_tick K) [] := by
  refine C8.met0 T.cl_Single T.m_Single_tick (fun_c8 F) (F.bindsN fun _ _ _ _ _ _ us hl => match us, hl with | [_], _ => rfl) sc_Single_tick (fun vs H Q E h => ?_) (fun cdv A outer s H vs Q E hr h => ?_)
  · obtain ⟨_, _, _, _, _, _, _, _, _, _, rfl, _⟩ := h
    rfl
  · have nd := sc_Single_tick.nd
    have hu := hu_of hr
    obtain ⟨A, P, S, K0, b, p, si, dx, now, M, rfl, ow, hcs, ri, hrl, hsl, q⟩ := h
    refine ⟨_, (pss_cons (ps_set (i := 1) nd rfl (Or.inl rfl) (C8.pe_mt c_take hr (by decide) (pe_fld (pv 0) rfl) (pa_cons (C8.pe_mt0 c_ready_lines hr (by decide) (pe_fld (pv 0) rfl)) pa_nil)))
      (pss_cons (ps_expr (pe_bm PySem.F.plainAttrs_list PySem.F.slot_list_extend PySem.F.type_list_extend mt_extend (pv 1) (pa_cons (C8.pe_mt0 c_go_on hr (by decide) (pe_fld (pv 0) rfl)) pa_nil)))
      (pss_cons (ps_fldaug (pv 0) pe_int in_add)
      (pss_one (ps_ret (pv 1)))))), ?_⟩
    have hsi := ow.fr
    obtain ⟨sv, rv, h1, h2, sp⟩ := ow.ex
    have hbo := sp.ext _ _ ow.fb.at_
    refine ⟨_, rfl, _, _, _, _, _, rfl, hsi, T.cl_Single, T.t_Single_processor, rfl, P.pr, P.dp, _, rfl, ow.prc, rfl, ?_⟩
    refine ⟨_, rfl, _, _, _, _, _, rfl, hsi, T.cl_Single, T.t_Single_board, rfl, A.bo, A.db, _, rfl, hbo, rfl, A, S, K0, b, _, rfl, ⟨ow.fb, ow.fl, sp⟩, fun lp H1 g1 hlp hlp1 => ?_⟩
    have owf := (ow.ownM' g1 hlp hlp1).freezeM
    have hmem : ∀ l ∈ (linesO S).filter (readyB b), l ∈ S.ls := fun l m => linesO_mem ow.fb.ok (List.mem_filter.mp m).1
    have T1 := takeA_ok (b := b) ow.fb.ok hcs ri hmem
    rw [tickA_eq] at q
    refine ⟨A, P, S, _, b, p, _, lp, (linesO S).filter (readyB b), rfl, owf.1, hcs, ri, by omega, by omega, upd_same, hmem, fun K1 H2 a ev g2 ow2 he => ?_⟩
    generalize takeA S.ws b p ((linesO S).filter (readyB b)) = z at T1 q ow2 he
    obtain ⟨tc, tr, tl, ts, te⟩ := T1
    have hsi2 := ow2.swapM.fr
    refine ⟨_, rfl, .inl ⟨rfl, _, .inl (.inl ow2.fr)⟩, _, rfl, _, _, _, _, _, rfl, hsi2, T.cl_Single, T.t_Single_processor, rfl, P.pr, P.dp, _, rfl, ow2.prc, rfl, A, P, S, K1, _, _, _, rfl, ow2, tc, tr, by omega, by omega, fun K2 H3 a2 ev2 g3 ow3 hp2 he2 => ?_⟩
    have l1 := he.length
    have l2 := he2.length
    have e2 := goOn_evs (ws := S.ws) (b := z.1) (p := z.2.1)
    refine ⟨a, a2, ev, ev2, rfl, rfl, ow3.fr, ow3.same _ _ hp2, Nat.le_of_lt (sml (m := 100) (by omega) (by decide)), ?_⟩
    have ow4 := ow3.putM (y := .lst (ev ++ ev2))
    have hsi4 := ow4.swapM.fr
    refine ⟨_, rfl, _, _, _, _, _, rfl, hsi4, T.cl_Single, T.t_Single_now, rfl, _, _, rfl, rfl, _, _, hsi4, by simp, ?_⟩
    have ow5 := ow4.swapM.putM (y := siI K A P dx (now + 1))
    obtain ⟨ow6, g6⟩ := ow5.swapM.freezeM
    have gA := Same.tr owf.2 (Same.tr g2 (Same.tr g3 g6))
    exact ⟨_, rfl, q _ _ a (ev ++ ev2) gA ow6 upd_same (papp (he2.mono fun _ _ z => EvAt.up g6 z) (he.mono fun _ _ z => EvAt.up (Same.tr g3 g6) z))⟩
abbrev N_Single_init : List Str := ["self", "setup"]
theorem sc_Single_init : FnScope N_Single_init ["self", "setup"] (C8.fnScope s_Single_init) := C8.fnScope_by (by decide +kernel)
theorem ok_Single_init {fd : FuncData} (T : Txt K mg) (F : FunD K "__init__" "Single.__init__" (C8.fnArgs s_Single_init) (C8.fnBody s_Single_init) (C8.fnScope s_Single_init) [] [] (He.ma K (aC "Single" K) "__init__") fd) (c_Board : C8.Mak P w K mg base 3 "Board" (aC "Board" K) (sp_Board_init K) []) (c_Processor : C8.Mak P w K mg base 4 "Processor" (aC "Processor" K) (sp_Processor_init K) []) :
    C8.Mak P w K mg base 7 "Single" (aC "Single" K) (sp_Single_init K) [] := by
  refine C8.mak0 (ds := []) T.mk_Single T.g_Single (fun_c8 F) (F.bindsN fun _ _ _ _ _ _ us hl => match us, hl with | [_, _], _ => rfl) .nil sc_Single_init (fun vs H Q E h => ?_) (fun cdv A outer s H vs Q E hr h => ?_)
  · obtain ⟨_, _, _, _, _, _, rfl, _⟩ := h
    rfl
  · have nd := sc_Single_init.nd
    have hu := hu_of hr
    obtain ⟨x, dx, su, S, K0, M, rfl, sp, hS, ok, q⟩ := h
    refine ⟨_, (pss_cons (ps_fld (pv 0) (pv 1) rfl)
      (pss_cons (ps_fld (pv 0) (C8.pe_mk c_Board hr (by decide) rfl (pa_cons (pv 1) pa_nil)) rfl)
      (pss_cons (ps_fld (pv 0) (C8.pe_mk c_Processor hr (by decide) rfl (pa_cons (pv 1) (pa_cons (pe_fld (pv 0) rfl) pa_nil))) rfl)
      (pss_one (ps_fld (pv 0) pe_int rfl))))), ?_⟩
    refine ⟨_, rfl, _, rfl, _, _, _, _, rfl, sp.c0, T.cl_Single, T.t_Single_setup, (by simp), ?_⟩
    have t1 := sp.put0 (o' := .ins (aC "Single" K) dx [("_setup", .ref su)])
    refine ⟨_, rfl, fun bo db hbo hdb hne => ?_⟩
    have t2 := t1.obj (o := .own bo) (o' := .ins (aC "Board" K) db []) hbo hdb hne
    refine ⟨bo, db, su, S, K0, _, rfl, t2, hS, ok, fun K1 H1 A g1 eb es owb => ⟨rfl, ?_⟩⟩
    subst eb es
    have t3 := owb.sp
    refine ⟨_, rfl, _, _, _, _, rfl, t3.c5, T.cl_Single, T.t_Single_board, (by simp), ?_⟩
    have t4 := t3.put5 (y := .ins (aC "Single" K) dx [("_setup", .ref A.su), ("_board", .ref A.bo)])
    refine ⟨_, rfl, _, rfl, _, _, _, _, _, rfl, t4.c5, T.cl_Single, T.t_Single_board, rfl, fun pr dp hpr hdp hne2 => ?_⟩
    have t5 := t4.obj (o := .own pr) (o' := .ins (aC "Processor" K) dp []) hpr hdp hne2
    refine ⟨pr, dp, A, S, K1, bd0, _, rfl, owb.fb, owb.fl, t5, fun K2 H2 P g2 ep _ ow => ⟨rfl, ?_⟩⟩
    subst ep
    refine ⟨_, rfl, _, _, _, _, rfl, ow.fr, T.cl_Single, T.t_Single_processor, (by simp), ?_⟩
    have ow2 := ow.putM (y := .ins (aC "Single" K) dx [("_setup", .ref A.su), ("_board", .ref A.bo), ("_processor", .ref P.pr)])
    refine ⟨_, rfl, _, _, _, _, rfl, ow2.fr, T.cl_Single, T.t_Single_now, (by simp), ?_⟩
    have ow3 := ow2.putM (y := .ins (aC "Single" K) dx [("_setup", .ref A.su), ("_board", .ref A.bo), ("_processor", .ref P.pr), ("_now", .int 0)])
    exact q K2 _ A P (Same.tr g1 g2) rfl ow3
end
end Cb

namespace Cb
open PySem PySem.Spec PyProof.Rows L2

theorem flat_strs (ws : List Str) : (ws.map V.str).all flatV = true := by simp [flatV]
def lk (ls : List LineD) : List (Key × V) := ls.map fun l => (.inr l.name, .str (kindS l.lvl))
theorem lk_at {l : LineD} : ∀ {ls : List LineD}, (ls.map (·.name)).Nodup → l ∈ ls → valV (lk ls) (.inr l.name) = some (.str (kindS l.lvl))
  | m :: ws, nd, h => by
    have nd2 := List.nodup_cons.mp nd
    rcases List.mem_cons.mp h with e | h
    · subst e
      simp [lk, valV]
    · have ne : m.name ≠ l.name := fun q => nd2.1 (by show m.name ∈ _; rw [q]; exact List.mem_map_of_mem h)
      have z := lk_at nd2.2 h
      unfold lk valV at z ⊢
      rw [List.map_cons, List.find?_cons_of_neg (by simp [ne])]
      exact z
theorem lk_snoc {ws : List LineD} (nd : (ws.map (·.name)).Nodup) {i : Nat} {l : LineD} (h : ws[i]? = some l) : putK (lk (ws.take i)) (.inr l.name) (.str (kindS l.lvl)) = lk (ws.take (i + 1)) := by
  rw [take_snoc h, putK_new]
  · simp [lk]
  · intro e m q
    obtain ⟨k, hk, rfl⟩ := List.mem_map.mp m
    injection q with q
    have := nodup_take nd (i := i) (x := l.name) (by simp [h])
    rw [← List.map_take] at this
    exact this (q ▸ List.mem_map_of_mem hk)
def sp_is_line (K : PySem.W.Frag) : Sp := fun vs H Q _ => ∃ (v : V) (l : LineD), vs = [v] ∧ LineAt K H v l ∧ LineOk l ∧ Q (.bl true) H
def sp_is_work (K : PySem.W.Frag) : Sp := fun vs H Q _ => ∃ (v : V) (l : WorkD), vs = [v] ∧ WorkAt K H v l ∧ WorkOk l ∧ Q (.bl true) H
@[reducible] def sp_is_step (K : PySem.W.Frag) : Sp := fun vs H Q _ => ∃ (v : V) (kd p : Addr) (st : SD) (ls : List LineD) (ws : List WorkD), vs = [v, .ref kd, .ref p, .int 7] ∧ StepAt K H v st ∧ H kd = some (.dK (lk ls)) ∧ (ls.map (·.name)).Nodup ∧ SqL K H p ((ws.map (·.name)).map V.str) ∧ StepOk ls ws st ∧ Q (.bl true) H

section
variable {P : Program} {w : World} {K : PySem.W.Frag} {mg : Str → Option Value} {base : Heap}

abbrev N_is_letters : List Str := ["word"]
theorem sc_is_letters : FnScope N_is_letters ["word"] (C8.fnScope s_is_letters) := C8.fnScope_by (by decide +kernel)
theorem ok_is_letters {fd : FuncData} (T : Txt K mg) (F : FunD K "is_letters" "is_letters" (C8.fnArgs s_is_letters) (C8.fnBody s_is_letters) (C8.fnScope s_is_letters) [] [] (He.ga K "is_letters") fd) :
    C8.Cal P w K mg base 1 "is_letters" sp_is_letters [] := by
  refine C8.cal0 (ds := []) ⟨fun_c8 F, T.f_is_letters, F.kp⟩ (F.bindsN fun _ _ _ _ _ _ us hl => match us, hl with | [_], _ => rfl) .nil sc_is_letters (fun vs H Q E h => ?_) (fun cdv A outer s H vs Q E hr h => ?_)
  · obtain ⟨_, rfl, _⟩ := h
    rfl
  · have nd := sc_is_letters.nd
    have hu := hu_of hr
    obtain ⟨x, rfl, q⟩ := h
    refine ⟨_, (pss_one (ps_ret (pe_and (pe_bm0 PySem.F.plainAttrs_str PySem.F.slot_str_isascii PySem.F.type_str_isascii mt_isascii (pv 0)) (pe_and (pe_bm0 PySem.F.plainAttrs_str PySem.F.slot_str_isalpha PySem.F.type_str_isalpha mt_isalpha (pv 0)) (pe_one (pe_bm0 PySem.F.plainAttrs_str PySem.F.slot_str_islower PySem.F.type_str_islower mt_islower (pv 0))))))), ?_⟩
    refine ⟨_, rfl, rfl, _, rfl, rfl, True.intro, _, rfl, ?_⟩
    unfold letters at q
    cases e1 : Txt.isascii x with
    | false =>
      rw [e1, Bool.false_and] at q
      exact iteF q
    | true =>
      rw [e1, Bool.true_and] at q
      refine iteT ⟨_, rfl, rfl, _, rfl, rfl, True.intro, _, rfl, ?_⟩
      cases e2 : Txt.isalpha x with
      | false =>
        rw [e2, Bool.false_and] at q
        exact iteF q
      | true =>
        rw [e2, Bool.true_and] at q
        exact iteT ⟨_, rfl, rfl, _, rfl, rfl, True.intro, q⟩
abbrev N_is_name : List Str := ["value"]
theorem sc_is_name : FnScope N_is_name ["value"] (C8.fnScope s_is_name) := C8.fnScope_by (by decide +kernel)
theorem ok_is_name {fd : FuncData} (T : Txt K mg) (F : FunD K "is_name" "is_name" (C8.fnArgs s_is_name) (C8.fnBody s_is_name) (C8.fnScope s_is_name) [] [] (He.ga K "is_name") fd) (c_is_letters : C8.Cal P w K mg base 1 "is_letters" sp_is_letters []) :
    C8.Cal P w K mg base 2 "is_name" sp_is_name [] := by
  refine C8.cal0 (ds := []) ⟨fun_c8 F, T.f_is_name, F.kp⟩ (F.bindsN fun _ _ _ _ _ _ us hl => match us, hl with | [_], _ => rfl) .nil sc_is_name (fun vs H Q E h => ?_) (fun cdv A outer s H vs Q E hr h => ?_)
  · obtain ⟨_, rfl, _⟩ := h
    rfl
  · have nd := sc_is_name.nd
    have hu := hu_of hr
    obtain ⟨x, rfl, hz, q⟩ := h
    refine ⟨_, (pss_one (ps_ret (pe_and (pe_callB call_is (by rfl) T.n_isinstance (by decide +kernel) (pa_cons (pv 0) (pa_cons (pe_bltn (v := .ty "str") rfl T.n_str (by decide +kernel) rfl) pa_nil))) (pe_and (pe_cmpR op_le (pe_callB call_len_str (by rfl) T.n_len (by decide +kernel) (pa_cons (pv 0) pa_nil)) (C8.pe_gc rfl T.k_MAX_LETTERS) (nomark _)) (pe_one (C8.pe_c c_is_letters hr (by decide) rfl (pa_cons (pv 0) pa_nil))))))), ?_⟩
    refine ⟨_, rfl, _, _, _, _, rfl, ty_str, kb3, true, rfl, iteT ?_⟩
    refine ⟨_, rfl, _, rfl, hz, _, _, rfl, rfl, _, rfl, ?_⟩
    cases e1 : decide ((x.length : Int) ≤ 8) with
    | false =>
      rw [e1, Bool.false_and] at q
      exact iteF q
    | true =>
      rw [e1, Bool.true_and] at q
      exact iteT ⟨_, rfl, _, rfl, q⟩
abbrev N_is_line : List Str := ["line", "name", "kind", "rank", "handler"]
theorem sc_is_line : FnScope N_is_line ["line"] (C8.fnScope s_is_line) := C8.fnScope_by (by decide +kernel)
theorem ok_is_line {fd : FuncData} (T : Txt K mg) (F : FunD K "is_line" "is_line" (C8.fnArgs s_is_line) (C8.fnBody s_is_line) (C8.fnScope s_is_line) [] [] (He.ga K "is_line") fd) (c_is_integer : C8.Cal P w K mg base 1 "is_integer" sp_is_integer []) (c_is_name : C8.Cal P w K mg base 2 "is_name" sp_is_name []) :
    C8.Cal P w K mg base 3 "is_line" (sp_is_line K) [] := by
  refine C8.cal0 (ds := []) ⟨fun_c8 F, T.f_is_line, F.kp⟩ (F.bindsN fun _ _ _ _ _ _ us hl => match us, hl with | [_], _ => rfl) .nil sc_is_line (fun vs H Q E h => ?_) (fun cdv A outer s H vs Q E hr h => ?_)
  · obtain ⟨_, _, rfl, _⟩ := h
    rfl
  · have nd := sc_is_line.nd
    have hu := hu_of hr
    obtain ⟨v, l, rfl, ⟨a, g, hs, rfl, hl, hh, hp⟩, ok, q⟩ := h
    refine ⟨_, (pss_cons (ps_if (PW.pt (pw_or (pt_not (pt_val (pe_callB call_is (by rfl) T.n_isinstance (by decide +kernel) (pa_cons (pv 0) (pa_cons (pe_bltn (v := .ty "tuple") rfl T.n_tuple (by decide +kernel) rfl) pa_nil))))) (pw_or1 (pt_cmpR op_ne (pe_callB call_len_seq (by rfl) T.n_len (by decide +kernel) (pa_cons (pv 0) pa_nil)) pe_int (nomark _))))) (pss_one (ps_ret pe_bl)) pss_nil)
      (pss_cons (ps_asg (pv 0) (pg_tup rfl (pgs_cons (pg_name (i := 1) nd rfl (Or.inl rfl)) (pgs_cons (pg_name (i := 2) nd rfl (Or.inl rfl)) (pgs_cons (pg_name (i := 3) nd rfl (Or.inl rfl)) (pgs_cons (pg_name (i := 4) nd rfl (Or.inl rfl)) pgs_nil))))))
      (pss_cons (ps_if (PW.pt (pw_or (pt_not (pt_val (C8.pe_c c_is_name hr (by decide) rfl (pa_cons (pv 1) pa_nil)))) (pw_or (pt_cmpR op_notIn_seq (pv 2) (C8.pe_gc rfl T.k_KINDS) (by rfl)) (pw_or1 (pt_not (pt_val (C8.pe_c c_is_integer hr (by decide) rfl (pa_cons (pv 3) (pa_cons pe_int (pa_cons (C8.pe_gc rfl T.k_MAX_RANK) pa_nil)))))))))) (pss_one (ps_ret pe_bl)) pss_nil)
      (pss_one (ps_ret (pe_and (pe_callB call_is (by rfl) T.n_isinstance (by decide +kernel) (pa_cons (pv 4) (pa_cons (pe_bltn (v := .ty "tuple") rfl T.n_tuple (by decide +kernel) rfl) pa_nil))) (pe_one (pe_chain op_le op_le pe_int (pe_callB call_len_seq (by rfl) T.n_len (by decide +kernel) (pa_cons (pv 4) pa_nil)) (C8.pe_gc rfl T.k_MAX_STEPS))))))))), ?_⟩
    refine ⟨_, rfl, _, _, _, _, rfl, ty_tup hl, kb4, true, rfl, iteF ?_⟩
    refine ⟨_, rfl, _, _, rfl, .inr hl, rfl, false, rfl, iteF ?_⟩
    refine ⟨_, rfl, _, _, rfl, hl, rfl, _, _, rfl, _, _, rfl, _, _, rfl, _, _, rfl, rfl, ?_⟩
    refine ⟨_, rfl, l.name, rfl, small8 ok.nm.1, true, congrArg V.bl (andT (decide_eq_true (by have := ok.nm.1; omega)) ok.nm.2), iteF ?_⟩
    refine ⟨_, rfl, _, _, rfl, .inr (T.v_KINDS _), rfl, rfl, false, ?_, iteF ?_⟩
    · cases l.lvl <;> rfl
    refine ⟨_, rfl, _, _, _, rfl, true, congrArg V.bl (andT (decide_eq_true ok.r1) (decide_eq_true ok.r9)), iteF ?_⟩
    exact ⟨_, rfl, _, _, _, _, rfl, ty_tup hh, kb4, true, rfl, iteT ⟨_, rfl, _, _, rfl, .inr hh, _, _, rfl, rfl, true, congrArg V.bl (decide_eq_true (by have := ok.s1; have := hp.length; omega)), iteT ⟨_, _, rfl, rfl, (congrArg (fun b => Q (.bl b) H) (decide_eq_true (by have := ok.s8; have := hp.length; omega))).mpr q⟩⟩⟩
abbrev N_is_work : List Str := ["work", "name", "rank", "ticks"]
theorem sc_is_work : FnScope N_is_work ["work"] (C8.fnScope s_is_work) := C8.fnScope_by (by decide +kernel)
theorem ok_is_work {fd : FuncData} (T : Txt K mg) (F : FunD K "is_work" "is_work" (C8.fnArgs s_is_work) (C8.fnBody s_is_work) (C8.fnScope s_is_work) [] [] (He.ga K "is_work") fd) (c_is_integer : C8.Cal P w K mg base 1 "is_integer" sp_is_integer []) (c_is_name : C8.Cal P w K mg base 2 "is_name" sp_is_name []) :
    C8.Cal P w K mg base 3 "is_work" (sp_is_work K) [] := by
  refine C8.cal0 (ds := []) ⟨fun_c8 F, T.f_is_work, F.kp⟩ (F.bindsN fun _ _ _ _ _ _ us hl => match us, hl with | [_], _ => rfl) .nil sc_is_work (fun vs H Q E h => ?_) (fun cdv A outer s H vs Q E hr h => ?_)
  · obtain ⟨_, _, rfl, _⟩ := h
    rfl
  · have nd := sc_is_work.nd
    have hu := hu_of hr
    obtain ⟨v, l, rfl, ⟨a, rfl, hl⟩, ok, q⟩ := h
    refine ⟨_, (pss_cons (ps_if (PW.pt (pw_or (pt_not (pt_val (pe_callB call_is (by rfl) T.n_isinstance (by decide +kernel) (pa_cons (pv 0) (pa_cons (pe_bltn (v := .ty "tuple") rfl T.n_tuple (by decide +kernel) rfl) pa_nil))))) (pw_or1 (pt_cmpR op_ne (pe_callB call_len_seq (by rfl) T.n_len (by decide +kernel) (pa_cons (pv 0) pa_nil)) pe_int (nomark _))))) (pss_one (ps_ret pe_bl)) pss_nil)
      (pss_cons (ps_asg (pv 0) (pg_tup rfl (pgs_cons (pg_name (i := 1) nd rfl (Or.inl rfl)) (pgs_cons (pg_name (i := 2) nd rfl (Or.inl rfl)) (pgs_cons (pg_name (i := 3) nd rfl (Or.inl rfl)) pgs_nil)))))
      (pss_one (ps_ret (pe_and (C8.pe_c c_is_name hr (by decide) rfl (pa_cons (pv 1) pa_nil)) (pe_and (C8.pe_c c_is_integer hr (by decide) rfl (pa_cons (pv 2) (pa_cons pe_int (pa_cons (C8.pe_gc rfl T.k_MAX_RANK) pa_nil)))) (pe_one (C8.pe_c c_is_integer hr (by decide) rfl (pa_cons (pv 3) (pa_cons pe_int (pa_cons (C8.pe_gc rfl T.k_MAX_TICKS) pa_nil))))))))))), ?_⟩
    refine ⟨_, rfl, _, _, _, _, rfl, ty_tup hl, kb4, true, rfl, iteF ?_⟩
    refine ⟨_, rfl, _, _, rfl, .inr hl, rfl, false, rfl, iteF ?_⟩
    refine ⟨_, rfl, _, _, rfl, hl, rfl, _, _, rfl, _, _, rfl, _, _, rfl, rfl, ?_⟩
    refine ⟨_, rfl, l.name, rfl, small8 ok.nm.1, true, congrArg V.bl (andT (decide_eq_true (by have := ok.nm.1; omega)) ok.nm.2), iteT ?_⟩
    refine ⟨_, rfl, _, _, _, rfl, true, congrArg V.bl (andT (decide_eq_true ok.r1) (decide_eq_true ok.r9)), iteT ?_⟩
    exact ⟨_, rfl, _, _, _, rfl, (congrArg (fun b => Q (.bl b) H) (andT (decide_eq_true ok.t1) (decide_eq_true ok.t99))).mpr q⟩
abbrev N_is_step : List Str := ["step", "kinds", "works", "max_flag", "word", "what", "asked"]
theorem sc_is_step : FnScope N_is_step ["step", "kinds", "works", "max_flag"] (C8.fnScope s_is_step) := C8.fnScope_by (by decide +kernel)
theorem ok_is_step {fd : FuncData} (T : Txt K mg) (F : FunD K "is_step" "is_step" (C8.fnArgs s_is_step) (C8.fnBody s_is_step) (C8.fnScope s_is_step) [] [] (He.ga K "is_step") fd) (c_is_integer : C8.Cal P w K mg base 1 "is_integer" sp_is_integer []) {es : Array DictEntry} {nn : Nat} (D : KDict K w (He.ga K "ARGUMENTS") es nn) :
    C8.Cal P w K mg base 3 "is_step" (sp_is_step K) [] := by
  refine C8.cal0 (ds := []) ⟨fun_c8 F, T.f_is_step, F.kp⟩ (F.bindsN fun _ _ _ _ _ _ us hl => match us, hl with | [_, _, _, _], _ => rfl) .nil sc_is_step (fun vs H Q E h => ?_) (fun cdv A outer s H vs Q E hr h => ?_)
  · obtain ⟨_, _, _, _, _, _, rfl, _⟩ := h
    rfl
  · have nd := sc_is_step.nd
    have hu := hu_of hr
    obtain ⟨v, kd, p, st, ls, ws, rfl, ⟨a, rfl, hl⟩, hk, ndl, hw, ok, q⟩ := h
    refine ⟨_, (pss_cons (ps_if (PW.pt (pw_or (pt_not (pt_val (pe_callB call_is (by rfl) T.n_isinstance (by decide +kernel) (pa_cons (pv 0) (pa_cons (pe_bltn (v := .ty "tuple") rfl T.n_tuple (by decide +kernel) rfl) pa_nil))))) (pw_or1 (pt_cmpR op_ne (pe_callB call_len_seq (by rfl) T.n_len (by decide +kernel) (pa_cons (pv 0) pa_nil)) pe_int (nomark _))))) (pss_one (ps_ret pe_bl)) pss_nil)
      (pss_cons (ps_asg (pv 0) (pg_tup rfl (pgs_cons (pg_name (i := 4) nd rfl (Or.inl rfl)) (pgs_cons (pg_name (i := 5) nd rfl (Or.inl rfl)) pgs_nil))))
      (pss_cons (ps_if (PW.pt (pw_or (pt_not (pt_val (pe_callB call_is (by rfl) T.n_isinstance (by decide +kernel) (pa_cons (pv 4) (pa_cons (pe_bltn (v := .ty "str") rfl T.n_str (by decide +kernel) rfl) pa_nil))))) (pw_or1 (pt_cmpR (op_notIn_kd D) (pv 4) (C8.pe_gc rfl T.k_ARGUMENTS) (by rfl))))) (pss_one (ps_ret pe_bl)) pss_nil)
      (pss_cons (ps_set (i := 6) nd rfl (Or.inl rfl) (pe_ix ix_kdict (C8.pe_gc rfl T.k_ARGUMENTS) (pv 4) (fun _ _ => rfl)))
      (pss_cons (ps_if (pt_cmpR op_eq (pv 6) pe_str (nomark _)) (pss_one (ps_ret (C8.pe_c c_is_integer hr (by decide) rfl (pa_cons (pv 5) (pa_cons pe_int (pa_cons (C8.pe_gc rfl T.k_MAX_TICKS) pa_nil)))))) pss_nil)
      (pss_cons (ps_if (pt_cmpR op_eq (pv 6) pe_str (nomark _)) (pss_one (ps_ret (C8.pe_c c_is_integer hr (by decide) rfl (pa_cons (pv 5) (pa_cons pe_int (pa_cons (pv 3) pa_nil)))))) pss_nil)
      (pss_cons (ps_if (pt_cmpR op_eq (pv 6) pe_str (nomark _)) (pss_one (ps_ret (C8.pe_c c_is_integer hr (by decide) rfl (pa_cons (pv 5) (pa_cons pe_int (pa_cons (C8.pe_gc rfl T.k_MAX_RANK) pa_nil)))))) pss_nil)
      (pss_cons (ps_if (pt_not (pt_val (pe_callB call_is (by rfl) T.n_isinstance (by decide +kernel) (pa_cons (pv 5) (pa_cons (pe_bltn (v := .ty "str") rfl T.n_str (by decide +kernel) rfl) pa_nil))))) (pss_one (ps_ret pe_bl)) pss_nil)
      (pss_cons (ps_if (pt_cmpR op_eq (pv 6) pe_str (nomark _)) (pss_one (ps_ret (pe_cmpR op_in_seq (pv 5) (pv 2) (by rfl)))) pss_nil)
      (pss_one (ps_ret (pe_and (pe_cmp (pc_din hu (pv 5) (pv 1)) rfl) (pe_one (pe_or (pe_cmpR op_eq (pv 6) pe_str (nomark _)) (pe_one (pe_cmpR op_eq (pe_dget hu (pv 1) (pv 5) (fun _ _ => rfl)) (pv 6) (nomark _))))))))))))))))), ?_⟩
    refine ⟨_, rfl, _, _, _, _, rfl, ty_tup hl, kb4, true, rfl, iteF ?_⟩
    refine ⟨_, rfl, _, _, rfl, .inr hl, rfl, false, rfl, iteF ?_⟩
    refine ⟨_, rfl, _, _, rfl, hl, rfl, _, _, rfl, _, _, rfl, rfl, ?_⟩
    refine ⟨_, rfl, _, _, _, _, rfl, ty_str, kb3, true, rfl, iteF ?_⟩
    cases st with
    | run n =>
      obtain ⟨u, hu1, hu2⟩ := He.valsB_ok T.v_ARGUMENTS (q := ("run", .str "ticks")) (List.mem_of_getElem? (i := 0) rfl)
      refine ⟨_, rfl, _, _, rfl, rfl, hu1, false, rfl, iteF ?_⟩
      refine ⟨_, rfl, _, _, _, rfl, rfl, ⟨_, _, u, D.at_, D.lit, hu1, hu2⟩, ?_⟩
      refine ⟨_, rfl, rfl, true, rfl, iteT ?_⟩
      exact ⟨_, rfl, _, _, _, rfl, (congrArg (fun b => Q (.bl b) H) (andT (decide_eq_true ok.1) (decide_eq_true ok.2))).mpr q⟩
    | ring x =>
      obtain ⟨u, hu1, hu2⟩ := He.valsB_ok T.v_ARGUMENTS (q := ("ring", .str "line")) (List.mem_of_getElem? (i := 1) rfl)
      refine ⟨_, rfl, _, _, rfl, rfl, hu1, false, rfl, iteF ?_⟩
      refine ⟨_, rfl, _, _, _, rfl, rfl, ⟨_, _, u, D.at_, D.lit, hu1, hu2⟩, ?_⟩
      refine ⟨_, rfl, rfl, false, rfl, iteF ?_⟩
      refine ⟨_, rfl, rfl, false, rfl, iteF ?_⟩
      refine ⟨_, rfl, rfl, false, rfl, iteF ?_⟩
      refine ⟨_, rfl, _, _, _, _, rfl, ty_str, kb3, true, rfl, iteF ?_⟩
      refine ⟨_, rfl, rfl, false, rfl, iteF ?_⟩
      obtain ⟨x, hx, rfl⟩ := ok
      refine ⟨_, rfl, _, rfl, _, valV (lk ls) (.inr x.name), rfl, DGet.k (k := .inr x.name) hk, ?_⟩
      rw [lk_at ndl hx]
      exact ⟨true, rfl, iteT ⟨_, rfl, rfl, true, rfl, iteT q⟩⟩
    | quiet x =>
      obtain ⟨u, hu1, hu2⟩ := He.valsB_ok T.v_ARGUMENTS (q := ("quiet", .str "level")) (List.mem_of_getElem? (i := 2) rfl)
      refine ⟨_, rfl, _, _, rfl, rfl, hu1, false, rfl, iteF ?_⟩
      refine ⟨_, rfl, _, _, _, rfl, rfl, ⟨_, _, u, D.at_, D.lit, hu1, hu2⟩, ?_⟩
      refine ⟨_, rfl, rfl, false, rfl, iteF ?_⟩
      refine ⟨_, rfl, rfl, false, rfl, iteF ?_⟩
      refine ⟨_, rfl, rfl, false, rfl, iteF ?_⟩
      refine ⟨_, rfl, _, _, _, _, rfl, ty_str, kb3, true, rfl, iteF ?_⟩
      refine ⟨_, rfl, rfl, false, rfl, iteF ?_⟩
      obtain ⟨x, hx, rfl, hv⟩ := ok
      refine ⟨_, rfl, _, rfl, _, valV (lk ls) (.inr x.name), rfl, DGet.k (k := .inr x.name) hk, ?_⟩
      rw [lk_at ndl hx]
      refine ⟨true, rfl, iteT ⟨_, rfl, rfl, false, rfl, iteF ?_⟩⟩
      have hk2 := DGet.k (k := .inr x.name) hk
      rw [lk_at ndl hx, hv] at hk2
      exact ⟨_, rfl, _, rfl, _, _, rfl, hk2, _, rfl, rfl, q⟩
    | mask x =>
      obtain ⟨u, hu1, hu2⟩ := He.valsB_ok T.v_ARGUMENTS (q := ("mask", .str "line")) (List.mem_of_getElem? (i := 3) rfl)
      refine ⟨_, rfl, _, _, rfl, rfl, hu1, false, rfl, iteF ?_⟩
      refine ⟨_, rfl, _, _, _, rfl, rfl, ⟨_, _, u, D.at_, D.lit, hu1, hu2⟩, ?_⟩
      refine ⟨_, rfl, rfl, false, rfl, iteF ?_⟩
      refine ⟨_, rfl, rfl, false, rfl, iteF ?_⟩
      refine ⟨_, rfl, rfl, false, rfl, iteF ?_⟩
      refine ⟨_, rfl, _, _, _, _, rfl, ty_str, kb3, true, rfl, iteF ?_⟩
      refine ⟨_, rfl, rfl, false, rfl, iteF ?_⟩
      obtain ⟨x, hx, rfl⟩ := ok
      refine ⟨_, rfl, _, rfl, _, valV (lk ls) (.inr x.name), rfl, DGet.k (k := .inr x.name) hk, ?_⟩
      rw [lk_at ndl hx]
      exact ⟨true, rfl, iteT ⟨_, rfl, rfl, true, rfl, iteT q⟩⟩
    | unmask x =>
      obtain ⟨u, hu1, hu2⟩ := He.valsB_ok T.v_ARGUMENTS (q := ("unmask", .str "line")) (List.mem_of_getElem? (i := 4) rfl)
      refine ⟨_, rfl, _, _, rfl, rfl, hu1, false, rfl, iteF ?_⟩
      refine ⟨_, rfl, _, _, _, rfl, rfl, ⟨_, _, u, D.at_, D.lit, hu1, hu2⟩, ?_⟩
      refine ⟨_, rfl, rfl, false, rfl, iteF ?_⟩
      refine ⟨_, rfl, rfl, false, rfl, iteF ?_⟩
      refine ⟨_, rfl, rfl, false, rfl, iteF ?_⟩
      refine ⟨_, rfl, _, _, _, _, rfl, ty_str, kb3, true, rfl, iteF ?_⟩
      refine ⟨_, rfl, rfl, false, rfl, iteF ?_⟩
      obtain ⟨x, hx, rfl⟩ := ok
      refine ⟨_, rfl, _, rfl, _, valV (lk ls) (.inr x.name), rfl, DGet.k (k := .inr x.name) hk, ?_⟩
      rw [lk_at ndl hx]
      exact ⟨true, rfl, iteT ⟨_, rfl, rfl, true, rfl, iteT q⟩⟩
    | setf f =>
      obtain ⟨u, hu1, hu2⟩ := He.valsB_ok T.v_ARGUMENTS (q := ("set", .str "flag")) (List.mem_of_getElem? (i := 5) rfl)
      refine ⟨_, rfl, _, _, rfl, rfl, hu1, false, rfl, iteF ?_⟩
      refine ⟨_, rfl, _, _, _, rfl, rfl, ⟨_, _, u, D.at_, D.lit, hu1, hu2⟩, ?_⟩
      refine ⟨_, rfl, rfl, false, rfl, iteF ?_⟩
      refine ⟨_, rfl, rfl, true, rfl, iteT ?_⟩
      exact ⟨_, rfl, _, rfl, _, _, _, rfl, (congrArg (fun b => Q (.bl b) H) (andT (decide_eq_true (by omega)) (decide_eq_true (by have := ok; simp only [StepOk] at this; omega)))).mpr q⟩
    | clearf f =>
      obtain ⟨u, hu1, hu2⟩ := He.valsB_ok T.v_ARGUMENTS (q := ("clear", .str "flag")) (List.mem_of_getElem? (i := 6) rfl)
      refine ⟨_, rfl, _, _, rfl, rfl, hu1, false, rfl, iteF ?_⟩
      refine ⟨_, rfl, _, _, _, rfl, rfl, ⟨_, _, u, D.at_, D.lit, hu1, hu2⟩, ?_⟩
      refine ⟨_, rfl, rfl, false, rfl, iteF ?_⟩
      refine ⟨_, rfl, rfl, true, rfl, iteT ?_⟩
      exact ⟨_, rfl, _, rfl, _, _, _, rfl, (congrArg (fun b => Q (.bl b) H) (andT (decide_eq_true (by omega)) (decide_eq_true (by have := ok; simp only [StepOk] at this; omega)))).mpr q⟩
    | await f =>
      obtain ⟨u, hu1, hu2⟩ := He.valsB_ok T.v_ARGUMENTS (q := ("await", .str "flag")) (List.mem_of_getElem? (i := 7) rfl)
      refine ⟨_, rfl, _, _, rfl, rfl, hu1, false, rfl, iteF ?_⟩
      refine ⟨_, rfl, _, _, _, rfl, rfl, ⟨_, _, u, D.at_, D.lit, hu1, hu2⟩, ?_⟩
      refine ⟨_, rfl, rfl, false, rfl, iteF ?_⟩
      refine ⟨_, rfl, rfl, true, rfl, iteT ?_⟩
      exact ⟨_, rfl, _, rfl, _, _, _, rfl, (congrArg (fun b => Q (.bl b) H) (andT (decide_eq_true (by omega)) (decide_eq_true (by have := ok; simp only [StepOk] at this; omega)))).mpr q⟩
    | bar n =>
      obtain ⟨u, hu1, hu2⟩ := He.valsB_ok T.v_ARGUMENTS (q := ("bar", .str "bar")) (List.mem_of_getElem? (i := 8) rfl)
      refine ⟨_, rfl, _, _, rfl, rfl, hu1, false, rfl, iteF ?_⟩
      refine ⟨_, rfl, _, _, _, rfl, rfl, ⟨_, _, u, D.at_, D.lit, hu1, hu2⟩, ?_⟩
      refine ⟨_, rfl, rfl, false, rfl, iteF ?_⟩
      refine ⟨_, rfl, rfl, false, rfl, iteF ?_⟩
      refine ⟨_, rfl, rfl, true, rfl, iteT ?_⟩
      exact ⟨_, rfl, _, _, _, rfl, (congrArg (fun b => Q (.bl b) H) (andT (decide_eq_true ok.1) (decide_eq_true ok.2))).mpr q⟩
    | later x =>
      obtain ⟨u, hu1, hu2⟩ := He.valsB_ok T.v_ARGUMENTS (q := ("later", .str "work")) (List.mem_of_getElem? (i := 9) rfl)
      refine ⟨_, rfl, _, _, rfl, rfl, hu1, false, rfl, iteF ?_⟩
      refine ⟨_, rfl, _, _, _, rfl, rfl, ⟨_, _, u, D.at_, D.lit, hu1, hu2⟩, ?_⟩
      refine ⟨_, rfl, rfl, false, rfl, iteF ?_⟩
      refine ⟨_, rfl, rfl, false, rfl, iteF ?_⟩
      refine ⟨_, rfl, rfl, false, rfl, iteF ?_⟩
      refine ⟨_, rfl, _, _, _, _, rfl, ty_str, kb3, true, rfl, iteF ?_⟩
      refine ⟨_, rfl, rfl, true, rfl, iteT ?_⟩
      obtain ⟨x, hx, rfl⟩ := ok
      exact ⟨_, rfl, _, rfl, _, _, rfl, .inl hw, rfl, flat_strs (ws.map (·.name)), (congrArg (fun b => Q (.bl b) H) (inV_strs (List.mem_map_of_mem hx))).mpr q⟩
end
end Cb

namespace Cb
open PySem PySem.Spec PyProof.Rows L2

def NmAt (K : PySem.W.Frag) (H : Hp) (v : V) (n : Str) : Prop := ∃ t l, v = .ref t ∧ SqT K H t (.str n :: l)
theorem NmAt.up {K : PySem.W.Frag} {H H' : Hp} {v : V} {s : Str} (e : Same H H') (h : NmAt K H v s) : NmAt K H' v s := h.elim fun a h => h.elim fun l h => ⟨a, l, h.1, Same.tup e h.2⟩
theorem nm_of {K : PySem.W.Frag} {H : Hp} : ∀ {xs : List V} {ls : List LineD}, Paired (LineAt K H) xs ls → Paired (NmAt K H) xs (ls.map (·.name))
  | _, _, .nil => .nil
  | _, _, .cons ⟨a, h, hs, e, h1, _⟩ p => .cons ⟨a, _, e, h1⟩ (nm_of p)
theorem nw_of {K : PySem.W.Frag} {H : Hp} : ∀ {xs : List V} {ls : List WorkD}, Paired (WorkAt K H) xs ls → Paired (NmAt K H) xs (ls.map (·.name))
  | _, _, .nil => .nil
  | _, _, .cons ⟨a, e, h1⟩ p => .cons ⟨a, _, e, h1⟩ (nw_of p)
def sp_spoilt_named (K : PySem.W.Frag) : Sp := fun vs H Q _ => ∃ (a f : Addr) (m : Int) (xs : List V) (ns : List Str), vs = [.ref a, .int m, .ref f] ∧ SqT K H a xs ∧ H f = some (.lst (List.replicate xs.length (.bl true))) ∧ Paired (NmAt K H) xs ns ∧ ns.Nodup ∧ ns.length ≤ 12 ∧ (ns.length : Int) ≤ m ∧ ∀ H', Same H H' → Q .non H'
def sp_spoilt_line (K : PySem.W.Frag) : Sp := fun vs H Q _ => ∃ (a : Addr) (ls : List LineD), vs = [.ref a, .int 12] ∧ LinesAt K H a ls ∧ LsOk ls ∧ ∀ H', Same H H' → Q .non H'
def sp_spoilt_work (K : PySem.W.Frag) : Sp := fun vs H Q _ => ∃ (a : Addr) (ls : List WorkD), vs = [.ref a, .int 8] ∧ WorksAt K H a ls ∧ WsOk ls ∧ ∀ H', Same H H' → Q .non H'
def sp_spoilt_handler (K : PySem.W.Frag) : Sp := fun vs H Q _ => ∃ (a b : Addr) (ls : List LineD) (ws : List WorkD), vs = [.ref a, .ref b, .int 7] ∧ LinesAt K H a ls ∧ WorksAt K H b ws ∧ LsOk ls ∧ WsOk ws ∧ AllOk ls ws ∧ ∀ H', Same H H' → Q .non H'
def sp_check_setup (K : PySem.W.Frag) : Sp := fun vs H Q _ => ∃ (a b : Addr) (ls : List LineD) (ws : List WorkD), vs = [.ref a, .ref b] ∧ LinesAt K H a ls ∧ WorksAt K H b ws ∧ LsOk ls ∧ WsOk ws ∧ AllOk ls ws ∧ ∀ H', Same H H' → Q .non H'

section
variable {P : Program} {w : World} {K : PySem.W.Frag} {mg : Str → Option Value} {base : Heap}

abbrev N_spoilt_named : List Str := ["rows", "most", "forms", "names", "at", "row"]
theorem sc_spoilt_named : FnScope N_spoilt_named ["rows", "most", "forms"] (C8.fnScope s_spoilt_named) := C8.fnScope_by (by decide +kernel)
theorem ok_spoilt_named {fd : FuncData} (T : Txt K mg) (F : FunD K "spoilt_named" "spoilt_named" (C8.fnArgs s_spoilt_named) (C8.fnBody s_spoilt_named) (C8.fnScope s_spoilt_named) [] [] (He.ga K "spoilt_named") fd) :
    C8.Cal P w K mg base 1 "spoilt_named" (sp_spoilt_named K) [] := by
  refine C8.cal0 (ds := []) ⟨fun_c8 F, T.f_spoilt_named, F.kp⟩ (F.bindsN fun _ _ _ _ _ _ us hl => match us, hl with | [_, _, _], _ => rfl) .nil sc_spoilt_named (fun vs H Q E h => ?_) (fun cdv A outer s H vs Q E hr h => ?_)
  · obtain ⟨_, _, _, _, _, rfl, _⟩ := h
    rfl
  · have nd := sc_spoilt_named.nd
    have hu := hu_of hr
    obtain ⟨a, f, m, xs, ns, rfl, hs, hfm, hp, ndl, l12, lm, q⟩ := h
    refine ⟨_, (pss_cons (ps_set (i := 3) nd rfl (Or.inl rfl) (pe_lst pa_nil))
      (pss_cons (ps_for PassesOwn.never rfl (pi_enumT (by rfl) T.n_enumerate (pa_cons (pv 0) pa_nil)) (pg_tup rfl (pgs_cons (pg_name (i := 4) nd rfl (Or.inl rfl)) (pgs_cons (pg_name (i := 5) nd rfl (Or.inl rfl)) pgs_nil))) (pss_cons (ps_if (PW.pt (pw_or (pt_cmpR op_eq (pv 4) (pv 1) (nomark _)) (pw_or (pt_not (pt_val (pe_ix (ix_list : IxR _ (rIxL K)) (pv 2) (pv 4) (fun _ _ => rfl)))) (pw_or1 (pt_cmpR op_in_seq (pe_ix ix_tup (pv 5) pe_int (fun _ _ => rfl)) (pv 3) (by rfl)))))) (pss_one (ps_ret (pv 4))) pss_nil)
      (pss_one (ps_expr (pe_bm PySem.F.plainAttrs_list PySem.F.slot_list_append PySem.F.type_list_append mt_append (pv 3) (pa_cons (pe_ix ix_tup (pv 5) pe_int (fun _ _ => rfl)) pa_nil))))))
      (pss_one (ps_ret pe_non)))), ?_⟩
    have hlen := hp.length
    refine ⟨Nat.zero_le _, fun p hfree => ?_⟩
    refine ⟨_, rfl, _, _, rfl, Same.tup (same_new (Same.refl H) hfree) hs, ?_⟩
    refine for_it (walk_enumT (xs := xs)) (fun i σ H' => ∃ x y, σ = [some (.ref a), some (.int m), some (.ref f), some (.ref p), x, y] ∧ Sep H H' [(p, .lst ((ns.take i).map V.str))]) ⟨_, _, rfl, Sep.nil.own hfree⟩ ?_ ?_ ?_
    · rintro i σ H' _ ⟨x, y, _, sp⟩
      exact Same.tup sp.ext hs
    · rintro i v σ H1 H2 hi ⟨x, y, rfl, sp⟩ ⟨t, v1, v2, rfl, hf, rfl, e1, e2⟩
      obtain rfl := Option.some.inj e1
      have hi2 : i < xs.length := (List.getElem?_eq_some_iff.mp e2).1
      obtain ⟨l, hl, hL⟩ := pget hp e2
      have sp2 := sp.drop (o := .tup [.int (i : Nat), v2]) hf
      have hpc := sp2.c0
      refine ⟨_, _, rfl, t_of upd_same, rfl, _, _, rfl, _, _, rfl, rfl, ?_⟩
      refine ⟨_, rfl, _, rfl, rfl, false, congrArg V.bl (decide_eq_false (by intro e; injection e; omega)), iteF ?_⟩
      refine ⟨_, rfl, _, rfl, _, _, _, _, rfl, rfl, l_of (sp2.ext _ _ hfm), atIn (by rw [List.getElem?_replicate, if_pos hi2]), true, rfl, iteF ?_⟩
      obtain ⟨t2, ll, rfl, hb⟩ := NmAt.up sp2.ext hL
      refine ⟨_, rfl, _, _, _, _, rfl, rfl, hb, atI0, _, rfl, _, _, rfl, .inl (l_of hpc), rfl, flat_strs _, false, congrArg V.bl (inV_not (nodup_take ndl hl)), iteF ?_⟩
      refine ⟨_, rfl, .inl ⟨rfl, _, .inl (.inl hpc)⟩, _, rfl, _, _, _, _, rfl, rfl, hb, atI0, _, _, _, rfl, rfl, hpc, ?_, ?_⟩
      · exact sml (m := 12) (by rw [List.length_map, List.length_take]; omega) (by decide)
      · refine ⟨_, _, rfl, ?_⟩
        rw [take_snoc hl, List.map_append]
        exact sp2.put0
    · rintro σ H' ⟨x, y, rfl, sp⟩
      exact q H' sp.ext
abbrev N_spoilt_line : List Str := ["lines", "most", "line"]
theorem sc_spoilt_line : FnScope N_spoilt_line ["lines", "most"] (C8.fnScope s_spoilt_line) := C8.fnScope_by (by decide +kernel)
theorem ok_spoilt_line {fd : FuncData} (T : Txt K mg) (F : FunD K "spoilt_line" "spoilt_line" (C8.fnArgs s_spoilt_line) (C8.fnBody s_spoilt_line) (C8.fnScope s_spoilt_line) [] [] (He.ga K "spoilt_line") fd) (c_is_line : C8.Cal P w K mg base 3 "is_line" (sp_is_line K) []) (c_spoilt_named : C8.Cal P w K mg base 1 "spoilt_named" (sp_spoilt_named K) []) :
    C8.Cal P w K mg base 4 "spoilt_line" (sp_spoilt_line K) [] := by
  refine C8.cal0 (ds := []) ⟨fun_c8 F, T.f_spoilt_line, F.kp⟩ (F.bindsN fun _ _ _ _ _ _ us hl => match us, hl with | [_, _], _ => rfl) .nil sc_spoilt_line (fun vs H Q E h => ?_) (fun cdv A outer s H vs Q E hr h => ?_)
  · obtain ⟨_, _, rfl, _⟩ := h
    rfl
  · have nd := sc_spoilt_line.nd
    have hu := hu_of hr
    obtain ⟨a, ls, rfl, hl, ok, q⟩ := h
    refine ⟨_, (pss_cons (ps_if (PW.pt (pw_or (pt_not (pt_val (pe_callB call_is (by rfl) T.n_isinstance (by decide +kernel) (pa_cons (pv 0) (pa_cons (pe_bltn (v := .ty "tuple") rfl T.n_tuple (by decide +kernel) rfl) pa_nil))))) (pw_or1 (pt_not (pt_truth (pv 0) (by intro _; rfl)))))) (pss_one (ps_ret pe_int)) pss_nil)
      (pss_one (ps_ret (C8.pe_c c_spoilt_named hr (by decide) rfl (pa_cons (pv 0) (pa_cons (pv 1) (pa_cons (pe_lc (own := [("line", 2)]) rfl nd (pi_tup (pv 0)) (blkOk_by (own := [("line", 2)]) (N := N_spoilt_line) (sc := (C8.fnScope s_spoilt_line)) (by decide +kernel)) (fun _ _ _ _ _ => (pg_name (i := 2) nd rfl (Or.inl rfl))) (fun _ _ _ _ _ => pts_nil) (fun _ _ _ _ _ => (C8.pe_c c_is_line hr (by decide) rfl (pa_cons (pv 2) pa_nil)))) pa_nil))))))), ?_⟩
    obtain ⟨xs, hs, hp⟩ := hl
    have hlen := hp.length
    refine ⟨_, rfl, _, _, _, _, rfl, ty_tup hs, kb4, true, rfl, iteF ?_⟩
    refine ⟨_, rfl, true, .inr (.inl ⟨_, hs, by
      cases xs with
      | nil => cases ls with
        | nil => exact absurd rfl ok.ne
        | cons _ _ => simp at hlen
      | cons _ _ => rfl⟩), iteF ?_⟩
    refine ⟨_, rfl, _, rfl, _, rfl, _, rfl, ⟨_, hs⟩, fun D hD => ?_⟩
    refine lc_it (walk_tup (xs := xs)) (fun i H' => Sep H H' [(D, .lst (List.replicate i (.bl true)))]) (Sep.nil.own hD) ?_ ?_ ?_
    · rintro i H' _ sp
      exact Same.tup sp.ext hs
    · rintro i v H1 H2 hi sp ⟨rfl, e2⟩
      obtain ⟨l, hl, hL⟩ := pget hp e2
      refine ⟨rfl, _, rfl, v, l, rfl, LineAt.up sp.ext hL, ok.ok l (List.mem_of_getElem? hl), _, sp.c0, ?_, ?_⟩
      · exact sml (m := 12) (by have := ok.le; rw [List.length_replicate]; omega) (by decide)
      · rw [List.replicate_succ']
        exact sp.put0
    rintro H1 sp
    have le := ok.le
    exact ⟨a, D, 12, xs, ls.map (·.name), rfl, Same.tup sp.ext hs, sp.c0, nm_of (hp.mono fun _ _ z => LineAt.up sp.ext z), ok.nd, by rw [List.length_map]; omega, by rw [List.length_map]; omega, fun H' g => q H' (Same.tr sp.ext g)⟩
abbrev N_spoilt_work : List Str := ["works", "most", "work"]
theorem sc_spoilt_work : FnScope N_spoilt_work ["works", "most"] (C8.fnScope s_spoilt_work) := C8.fnScope_by (by decide +kernel)
theorem ok_spoilt_work {fd : FuncData} (T : Txt K mg) (F : FunD K "spoilt_work" "spoilt_work" (C8.fnArgs s_spoilt_work) (C8.fnBody s_spoilt_work) (C8.fnScope s_spoilt_work) [] [] (He.ga K "spoilt_work") fd) (c_is_work : C8.Cal P w K mg base 3 "is_work" (sp_is_work K) []) (c_spoilt_named : C8.Cal P w K mg base 1 "spoilt_named" (sp_spoilt_named K) []) :
    C8.Cal P w K mg base 4 "spoilt_work" (sp_spoilt_work K) [] := by
  refine C8.cal0 (ds := []) ⟨fun_c8 F, T.f_spoilt_work, F.kp⟩ (F.bindsN fun _ _ _ _ _ _ us hl => match us, hl with | [_, _], _ => rfl) .nil sc_spoilt_work (fun vs H Q E h => ?_) (fun cdv A outer s H vs Q E hr h => ?_)
  · obtain ⟨_, _, rfl, _⟩ := h
    rfl
  · have nd := sc_spoilt_work.nd
    have hu := hu_of hr
    obtain ⟨a, ls, rfl, hl, ok, q⟩ := h
    refine ⟨_, (pss_cons (ps_if (pt_not (pt_val (pe_callB call_is (by rfl) T.n_isinstance (by decide +kernel) (pa_cons (pv 0) (pa_cons (pe_bltn (v := .ty "tuple") rfl T.n_tuple (by decide +kernel) rfl) pa_nil))))) (pss_one (ps_ret pe_int)) pss_nil)
      (pss_one (ps_ret (C8.pe_c c_spoilt_named hr (by decide) rfl (pa_cons (pv 0) (pa_cons (pv 1) (pa_cons (pe_lc (own := [("work", 2)]) rfl nd (pi_tup (pv 0)) (blkOk_by (own := [("work", 2)]) (N := N_spoilt_work) (sc := (C8.fnScope s_spoilt_work)) (by decide +kernel)) (fun _ _ _ _ _ => (pg_name (i := 2) nd rfl (Or.inl rfl))) (fun _ _ _ _ _ => pts_nil) (fun _ _ _ _ _ => (C8.pe_c c_is_work hr (by decide) rfl (pa_cons (pv 2) pa_nil)))) pa_nil))))))), ?_⟩
    obtain ⟨xs, hs, hp⟩ := hl
    have hlen := hp.length
    refine ⟨_, rfl, _, _, _, _, rfl, ty_tup hs, kb4, true, rfl, iteF ?_⟩
    refine ⟨_, rfl, _, rfl, _, rfl, _, rfl, ⟨_, hs⟩, fun D hD => ?_⟩
    refine lc_it (walk_tup (xs := xs)) (fun i H' => Sep H H' [(D, .lst (List.replicate i (.bl true)))]) (Sep.nil.own hD) ?_ ?_ ?_
    · rintro i H' _ sp
      exact Same.tup sp.ext hs
    · rintro i v H1 H2 hi sp ⟨rfl, e2⟩
      obtain ⟨l, hl, hL⟩ := pget hp e2
      refine ⟨rfl, _, rfl, v, l, rfl, WorkAt.up sp.ext hL, ok.ok l (List.mem_of_getElem? hl), _, sp.c0, ?_, ?_⟩
      · exact sml (m := 12) (by have := ok.le; rw [List.length_replicate]; omega) (by decide)
      · rw [List.replicate_succ']
        exact sp.put0
    rintro H1 sp
    have le := ok.le
    exact ⟨a, D, 8, xs, ls.map (·.name), rfl, Same.tup sp.ext hs, sp.c0, nw_of (hp.mono fun _ _ z => WorkAt.up sp.ext z), ok.nd, by rw [List.length_map]; omega, by rw [List.length_map]; omega, fun H' g => q H' (Same.tr sp.ext g)⟩
abbrev N_spoilt_handler : List Str := ["lines", "works", "max_flag", "kinds", "line", "names", "work", "at", "step"]
theorem sc_spoilt_handler : FnScope N_spoilt_handler ["lines", "works", "max_flag"] (C8.fnScope s_spoilt_handler) := C8.fnScope_by (by decide +kernel)
theorem ok_spoilt_handler {fd : FuncData} (T : Txt K mg) (F : FunD K "spoilt_handler" "spoilt_handler" (C8.fnArgs s_spoilt_handler) (C8.fnBody s_spoilt_handler) (C8.fnScope s_spoilt_handler) [] [] (He.ga K "spoilt_handler") fd) (c_is_step : C8.Cal P w K mg base 3 "is_step" (sp_is_step K) []) :
    C8.Cal P w K mg base 4 "spoilt_handler" (sp_spoilt_handler K) [] := by
  refine C8.cal0 (ds := []) ⟨fun_c8 F, T.f_spoilt_handler, F.kp⟩ (F.bindsN fun _ _ _ _ _ _ us hl => match us, hl with | [_, _, _], _ => rfl) .nil sc_spoilt_handler (fun vs H Q E h => ?_) (fun cdv A outer s H vs Q E hr h => ?_)
  · obtain ⟨_, _, _, _, rfl, _⟩ := h
    rfl
  · have nd := sc_spoilt_handler.nd
    have hu := hu_of hr
    obtain ⟨a, b, ls, ws, rfl, ⟨xs, hs, hp⟩, ⟨ys, ht, hr2⟩, ok, okw, oks, q⟩ := h
    refine ⟨_, (pss_cons (ps_set (i := 3) nd rfl (Or.inr rfl) (pe_dc (own := [("line", 4)]) rfl nd (pi_tup (pv 0)) (blkOk_by (own := [("line", 4)]) (N := N_spoilt_handler) (sc := (C8.fnScope s_spoilt_handler)) (by decide +kernel)) (fun _ _ _ _ _ => (pg_name (i := 4) nd rfl (Or.inl rfl))) (fun _ _ _ _ _ => pts_nil) (fun _ _ _ _ _ => (pe_ix (ix_tup : IxR _ (rIxT K)) (pv 4) pe_int (fun _ _ => rfl))) (fun _ _ _ _ _ => (pe_ix (ix_tup : IxR _ (rIxT K)) (pv 4) pe_int (fun _ _ => rfl)))))
      (pss_cons (ps_set (i := 5) nd rfl (Or.inr rfl) (pe_lc (own := [("work", 6)]) rfl nd (pi_tup (pv 1)) (blkOk_by (own := [("work", 6)]) (N := N_spoilt_handler) (sc := (C8.fnScope s_spoilt_handler)) (by decide +kernel)) (fun _ _ _ _ _ => (pg_name (i := 6) nd rfl (Or.inl rfl))) (fun _ _ _ _ _ => pts_nil) (fun _ _ _ _ _ => (pe_ix (ix_tup : IxR _ (rIxT K)) (pv 6) pe_int (fun _ _ => rfl)))))
      (pss_cons (ps_for PassesOwn.never rfl (pi_enumT (by rfl) T.n_enumerate (pa_cons (pv 0) pa_nil)) (pg_tup rfl (pgs_cons (pg_name (i := 7) nd rfl (Or.inl rfl)) (pgs_cons (pg_name (i := 4) nd rfl (Or.inl rfl)) pgs_nil))) (pss_one (ps_if (pt_not (pt_val (pe_callB (cr_all rfl) (by rfl) T.n_all (by decide +kernel) (pa_cons (pe_lc (own := [("step", 8)]) rfl nd (pi_tup (pe_ix ix_tup (pv 4) pe_int (fun _ _ => rfl))) (blkOk_by (own := [("step", 8)]) (N := N_spoilt_handler) (sc := (C8.fnScope s_spoilt_handler)) (by decide +kernel)) (fun _ _ _ _ _ => (pg_name (i := 8) nd rfl (Or.inl rfl))) (fun _ _ _ _ _ => pts_nil) (fun _ _ _ _ _ => (C8.pe_c c_is_step hr (by decide) rfl (pa_cons (pv 8) (pa_cons (pv 3) (pa_cons (pv 5) (pa_cons (pv 2) pa_nil))))))) pa_nil)))) (pss_one (ps_ret (pv 7))) pss_nil)))
      (pss_one (ps_ret pe_non))))), ?_⟩
    
    have hlen := hp.length
    have hlenw := hr2.length
    refine ⟨_, rfl, _, rfl, ⟨_, hs⟩, fun D hD => ?_⟩
    refine dc_it (walk_tup (xs := xs)) (fun i H' => Sep H H' [(D, .dK (lk (ls.take i)))]) (Sep.nil.own hD) ?_ ?_ ?_
    · rintro i H' _ sp
      exact Same.tup sp.ext hs
    · rintro i v H1 H2 hi sp ⟨rfl, e2⟩
      obtain ⟨l, hl, hL⟩ := pget hp e2
      obtain ⟨c, g, hs2, rfl, hb, _⟩ := LineAt.up sp.ext hL
      refine ⟨rfl, ⟨_, rfl, _, _, _, _, rfl, rfl, hb, rfl, _, rfl, _, _, _, _, rfl, rfl, hb, rfl, _, .inr l.name, rfl, sp.c0, ?_, ?_⟩⟩
      · exact sml (m := 12) (by have := ok.le; unfold lk; rw [List.length_map, List.length_take]; omega) (by decide)
      · rw [lk_snoc ok.nd hl]
        exact sp.put0
    rintro H1 sp
    rw [List.take_of_length_le (by omega)] at sp
    refine ⟨_, rfl, _, rfl, ⟨_, Same.tup sp.ext ht⟩, fun D2 hD2 => ?_⟩
    refine lc_it (walk_tup (xs := ys)) (fun i H' => Sep H H' [(D2, .lst (((ws.take i).map (·.name)).map V.str)), (D, .dK (lk ls))]) (sp.own hD2) ?_ ?_ ?_
    · rintro i H' _ sp
      exact Same.tup sp.ext ht
    · rintro i v H1 H2 hi sp ⟨rfl, e2⟩
      obtain ⟨l, hl, hL⟩ := pget hr2 e2
      obtain ⟨c, rfl, hb⟩ := WorkAt.up sp.ext hL
      refine ⟨rfl, ⟨_, rfl, _, _, _, _, rfl, rfl, hb, rfl, _, sp.c0, ?_, ?_⟩⟩
      · exact sml (m := 12) (by have := okw.le; rw [List.length_map, List.length_map, List.length_take]; omega) (by decide)
      · rw [take_snoc hl, List.map_append, List.map_append]
        exact sp.put0
    rintro H2 sp2
    rw [List.take_of_length_le (by omega)] at sp2
    refine ⟨_, rfl, _, _, rfl, Same.tup sp2.ext hs, ?_⟩
    refine for_it (walk_enumT (xs := xs)) (fun i σ H' => ∃ x y z u, σ = [some (.ref a), some (.ref b), some (.int 7), some (.ref D), x, some (.ref D2), u, y, z] ∧ Sep H H' [(D2, .lst ((ws.map (·.name)).map V.str)), (D, .dK (lk ls))]) ⟨_, _, _, _, rfl, sp2⟩ ?_ ?_ ?_
    · rintro i σ H' _ ⟨_, _, _, _, _, sp⟩
      exact Same.tup sp.ext hs
    · rintro i v σ H1 H2 hi ⟨x, y, z, u, rfl, sp⟩ ⟨t, v1, v2, rfl, hf, rfl, e1, e2⟩
      obtain rfl := Option.some.inj e1
      obtain ⟨l, hl, hL⟩ := pget hp e2
      have sp2 := sp.drop (o := .tup [.int (i : Nat), v2]) hf
      obtain ⟨c, g, gs, rfl, hb0, hg, hst⟩ := hL
      have hb := Same.tup sp2.ext hb0
      have hlg := hst.length
      refine ⟨_, _, rfl, t_of upd_same, rfl, _, _, rfl, _, _, rfl, rfl, ?_⟩
      refine ⟨_, rfl, _, _, _, _, rfl, rfl, hb, rfl, _, rfl, ⟨_, Same.tup sp2.ext hg⟩, fun D3 hD3 => ?_⟩
      refine lc_it (walk_tup (xs := gs)) (fun i H' => Sep H H' [(D3, .lst (List.replicate i (.bl true))), (D2, .lst ((ws.map (·.name)).map V.str)), (D, .dK (lk ls))]) (sp2.own hD3) ?_ ?_ ?_
      · rintro j H' _ sp
        exact Same.tup sp.ext hg
      · rintro j v H3 H4 hj sp3 ⟨rfl, e3⟩
        obtain ⟨st, hst1, hst2⟩ := pget hst e3
        refine ⟨rfl, ⟨_, rfl, _, rfl, _, rfl, _, rfl, ?_⟩⟩
        refine ⟨_, D, D2, st, ls, ws, rfl, StepAt.up sp3.ext hst2, sp3.c2, ok.nd, l_of sp3.c1, oks l (List.mem_of_getElem? hl) st (List.mem_of_getElem? hst1), _, sp3.c0, ?_, ?_⟩
        · rw [List.length_replicate]
          exact sml (m := 12) (by have := (ok.ok l (List.mem_of_getElem? hl)).s8; omega) (by decide)
        · rw [List.replicate_succ']
          exact sp3.put0
      · rintro H3 sp3
        refine ⟨_, List.replicate gs.length true, rfl, l_of (by rw [List.map_replicate]; exact sp3.c0), true, congrArg V.bl (by simp), iteF ?_⟩
        exact ⟨_, _, _, _, rfl, sp3.tail⟩
    · rintro σ H' ⟨_, _, _, _, rfl, sp⟩
      exact q H' sp.ext
abbrev N_check_setup : List Str := ["lines", "works", "at"]
theorem sc_check_setup : FnScope N_check_setup ["lines", "works"] (C8.fnScope s_check_setup) := C8.fnScope_by (by decide +kernel)
theorem ok_check_setup {fd : FuncData} (T : Txt K mg) (F : FunD K "check_setup" "check_setup" (C8.fnArgs s_check_setup) (C8.fnBody s_check_setup) (C8.fnScope s_check_setup) [] [] (He.ga K "check_setup") fd) (c_spoilt_line : C8.Cal P w K mg base 4 "spoilt_line" (sp_spoilt_line K) []) (c_spoilt_work : C8.Cal P w K mg base 4 "spoilt_work" (sp_spoilt_work K) []) (c_spoilt_handler : C8.Cal P w K mg base 4 "spoilt_handler" (sp_spoilt_handler K) []) :
    C8.Cal P w K mg base 5 "check_setup" (sp_check_setup K) [] := by
  refine C8.cal0 (ds := []) ⟨fun_c8 F, T.f_check_setup, F.kp⟩ (F.bindsN fun _ _ _ _ _ _ us hl => match us, hl with | [_, _], _ => rfl) .nil sc_check_setup (fun vs H Q E h => ?_) (fun cdv A outer s H vs Q E hr h => ?_)
  · obtain ⟨_, _, _, _, rfl, _⟩ := h
    rfl
  · have nd := sc_check_setup.nd
    have hu := hu_of hr
    obtain ⟨a, b, ls, ws, rfl, hl, hw, ok, okw, oks, q⟩ := h
    refine ⟨_, (pss_cons (ps_set (i := 2) nd rfl (Or.inl rfl) (C8.pe_c c_spoilt_line hr (by decide) rfl (pa_cons (pv 0) (pa_cons (ClX.pe_cval (pe_glob (v := .ref (aC "Setup" K)) rfl T.g_Setup rfl)) pa_nil))))
      (pss_cons (ps_if (pt_cmpR op_notN (pv 2) pe_non (nomark _)) (pss_one ps_never) pss_nil)
      (pss_cons (ps_set (i := 2) nd rfl (Or.inl rfl) (C8.pe_c c_spoilt_work hr (by decide) rfl (pa_cons (pv 1) (pa_cons (ClX.pe_cval (pe_glob (v := .ref (aC "Setup" K)) rfl T.g_Setup rfl)) pa_nil))))
      (pss_cons (ps_if (pt_cmpR op_notN (pv 2) pe_non (nomark _)) (pss_one ps_never) pss_nil)
      (pss_cons (ps_set (i := 2) nd rfl (Or.inl rfl) (C8.pe_c c_spoilt_handler hr (by decide) rfl (pa_cons (pv 0) (pa_cons (pv 1) (pa_cons (ClX.pe_cval (pe_glob (v := .ref (aC "Setup" K)) rfl T.g_Setup rfl)) pa_nil)))))
      (pss_one (ps_if (pt_cmpR op_notN (pv 2) pe_non (nomark _)) (pss_one ps_never) pss_nil))))))), ?_⟩
    
    obtain ⟨u1, c1⟩ := T.c_Setup_MAX_LINES
    obtain ⟨u2, c2⟩ := T.c_Setup_MAX_WORKS
    obtain ⟨u3, c3⟩ := T.c_Setup_MAX_FLAG
    refine ⟨_, rfl, _, _, _, _, rfl, T.r_Setup, c1, a, ls, rfl, hl, ok, fun H1 s1 => ?_⟩
    refine ⟨_, rfl, rfl, false, rfl, iteF ?_⟩
    refine ⟨_, rfl, _, _, _, _, rfl, T.r_Setup, c2, b, ws, rfl, WorksAt.up s1 hw, okw, fun H2 s2 => ?_⟩
    refine ⟨_, rfl, rfl, false, rfl, iteF ?_⟩
    refine ⟨_, rfl, _, rfl, _, _, _, _, rfl, T.r_Setup, c3, a, b, ls, ws, rfl, LinesAt.up s2 (LinesAt.up s1 hl), WorksAt.up s2 (WorksAt.up s1 hw), ok, okw, oks, fun H3 s3 => ?_⟩
    refine ⟨_, rfl, rfl, false, rfl, iteF ?_⟩
    exact q H3 fun b o z => s3 b o (s2 b o (s1 b o z))
end
end Cb

namespace Cb
open PySem PySem.Spec PyProof.Rows L2

def sp_Setup_init (K : PySem.W.Frag) : Sp := fun vs H Q _ => ∃ (x dx a b : Addr) (ls : List LineD) (ws : List WorkD) (K0 : Hp) (M : List (Addr × HO)), vs = [.ref x, .ref a, .ref b] ∧
  Sep K0 H ((x, .ins (aC "Setup" K) dx []) :: M) ∧ LinesAt K K0 a ls ∧ WorksAt K K0 b ws ∧ LsOk ls ∧ WsOk ws ∧ AllOk ls ws ∧
  ∀ K1 H' S, Same K0 K1 → Sep K1 H' M → SetupAt K K1 x S → S.ls = ls → S.ws = ws → SetOk S → Q .non H'

section
variable {P : Program} {w : World} {K : PySem.W.Frag} {mg : Str → Option Value} {base : Heap}

abbrev N_Setup_init : List Str := ["self", "lines", "works", "line", "ranked", "_", "name"]
theorem sc_Setup_init : FnScope N_Setup_init ["self", "lines", "works"] (C8.fnScope s_Setup_init) := C8.fnScope_by (by decide +kernel)
theorem bind_Setup_init {K : PySem.W.Frag} {f : Addr} {fd : FuncData} {dv : V} (F : FunD K "__init__" "Setup.__init__" (C8.fnArgs s_Setup_init) (C8.fnBody s_Setup_init) (C8.fnScope s_Setup_init) [dv] [] f fd) : L2.Binds K fd ["self", "lines", "works"] [] := by
  obtain ⟨ds, hv, hb⟩ := F.binds1 (ps := ["self", "lines", "works"]) 3 1 (by simp) rfl (fun T kV doc pm an cdv ct us its h1 h2 => match us, its, h1, h2 with | [_, _, _], [_], _, _ => ⟨_, rfl, rfl⟩)
  cases hv
  exact hb
theorem fnok_Setup_init {fd : FuncData} (T : Txt K mg) {dv : V} (F : FunD K "__init__" "Setup.__init__" (C8.fnArgs s_Setup_init) (C8.fnBody s_Setup_init) (C8.fnScope s_Setup_init) [dv] [] (He.ma K (aC "Setup" K) "__init__") fd) (c_check_setup : C8.Cal P w K mg base 5 "check_setup" (sp_check_setup K) []) :
    FnOk P w K mg base C8.CX0 6 (He.ma K (aC "Setup" K) "__init__") fd ["self", "lines", "works"] (sp_Setup_init K) := by
  refine C8.fn0 (fun_c8 F) sc_Setup_init (fun vs H Q E h => ?_) (fun cdv A outer s H vs Q E hr h => ?_)
  · obtain ⟨_, _, _, _, _, _, _, _, rfl, _⟩ := h
    rfl
  · have nd := sc_Setup_init.nd
    have hu := hu_of hr
    obtain ⟨x, dx, a, b, ls, ws, K0, M, rfl, sp, hl, hw, ok, okw, oks, q⟩ := h
    refine ⟨_, (pss_cons (ps_expr (C8.pe_c c_check_setup hr (by decide) rfl (pa_cons (pv 1) (pa_cons (pv 2) pa_nil))))
      (pss_cons (ps_fld (pv 0) (pv 1) rfl)
      (pss_cons (ps_fld (pv 0) (pv 2) rfl)
      (pss_cons (ps_fld (pv 0) (pe_dc (own := [("line", 3)]) rfl nd (pi_tup (pv 1)) (blkOk_by (own := [("line", 3)]) (N := N_Setup_init) (sc := (C8.fnScope s_Setup_init)) (by decide +kernel)) (fun _ _ _ _ _ => (pg_name (i := 3) nd rfl (Or.inl rfl))) (fun _ _ _ _ _ => pts_nil) (fun _ _ _ _ _ => (pe_ix (ix_tup : IxR _ (rIxT K)) (pv 3) pe_int (fun _ _ => rfl))) (fun _ _ _ _ _ => (pv 3))) rfl)
      (pss_cons (ps_set (i := 4) nd rfl (Or.inl rfl) (pe_callB cr_sortIS (by rfl) T.n_sorted (by decide +kernel) (pa_cons (pe_lc (own := [("line", 3)]) rfl nd (pi_tup (pv 1)) (blkOk_by (own := [("line", 3)]) (N := N_Setup_init) (sc := (C8.fnScope s_Setup_init)) (by decide +kernel)) (fun _ _ _ _ _ => (pg_name (i := 3) nd rfl (Or.inl rfl))) (fun _ _ _ _ _ => pts_nil) (fun _ _ _ _ _ => (pe_tup (pa_cons (pe_un un_neg (pe_ix (ix_tup : IxR _ (rIxT K)) (pv 3) pe_int (fun _ _ => rfl))) (pa_cons (pe_ix (ix_tup : IxR _ (rIxT K)) (pv 3) pe_int (fun _ _ => rfl)) pa_nil))))) pa_nil)))
      (pss_one (ps_fld (pv 0) (pe_callTy call_tuple_of (by rfl) T.n_tuple (by decide +kernel) (pa_cons (pe_lc (own := [("_", 5), ("name", 6)]) rfl nd (pi_list (pv 4)) (blkOk_by (own := [("_", 5), ("name", 6)]) (N := N_Setup_init) (sc := (C8.fnScope s_Setup_init)) (by decide +kernel)) (fun _ _ _ _ _ => (pg_tup (n := 2) rfl (pgs_cons (pg_name (i := 5) nd rfl (Or.inl rfl)) (pgs_cons (pg_name (i := 6) nd rfl (Or.inl rfl)) pgs_nil)) : PG _ _ (gTup K 2 _))) (fun _ _ _ _ _ => pts_nil) (fun _ _ _ _ _ => (pv 6))) pa_nil)) rfl))))))), ?_⟩
    
    obtain ⟨xs, hs, hp⟩ := hl
    have hlen := hp.length
    refine ⟨_, rfl, _, rfl, a, b, ls, ws, rfl, LinesAt.up sp.ext ⟨xs, hs, hp⟩, WorksAt.up sp.ext hw, ok, okw, oks, fun H1 s1 => ?_⟩
    have sp1 := sp.grow s1
    refine ⟨_, rfl, _, rfl, _, _, _, _, rfl, sp1.c0, T.cl_Setup, T.t_Setup_lines, (by simp), ?_⟩
    have sp2 := sp1.put0 (o' := .ins (aC "Setup" K) dx [("_lines", .ref a)])
    refine ⟨_, rfl, _, rfl, _, _, _, _, rfl, sp2.c0, T.cl_Setup, T.t_Setup_works, (by simp), ?_⟩
    have sp3 := sp2.put0 (o' := .ins (aC "Setup" K) dx [("_lines", .ref a), ("_works", .ref b)])
    refine ⟨_, rfl, _, rfl, ⟨_, Same.tup sp3.ext hs⟩, fun D hD => ?_⟩
    refine dc_it (walk_tup (xs := xs)) (fun i H' => Sep K0 H' ((D, .dK (byN (ls.take i) (xs.take i))) :: (x, .ins (aC "Setup" K) dx [("_lines", .ref a), ("_works", .ref b)]) :: M)) (sp3.own hD) ?_ ?_ ?_
    · rintro i H' _ sp
      exact Same.tup sp.ext hs
    · rintro i v H1 H2 hi sp ⟨rfl, e2⟩
      obtain ⟨l, hl, hL⟩ := pget hp e2
      obtain ⟨c, g, hs2, rfl, hb, _⟩ := LineAt.up sp.ext hL
      refine ⟨rfl, ⟨_, rfl, _, _, _, _, rfl, rfl, hb, rfl, _, rfl, _, .inr l.name, rfl, sp.c0, ?_, ?_⟩⟩
      · exact sml (m := 12) (by have := ok.le; unfold byN; simp; omega) (by decide)
      · rw [byN_snoc ok.nd hl e2]
        exact sp.put0
    rintro H2 sp4
    rw [List.take_of_length_le (Nat.le_of_eq hlen.symm), List.take_of_length_le (Nat.le_refl _)] at sp4
    refine ⟨_, rfl, _, _, _, _, rfl, sp4.c1, T.cl_Setup, T.t_Setup_by_name, (by simp), ?_⟩
    have sp5 := sp4.swap.put0 (o' := .ins (aC "Setup" K) dx [("_lines", .ref a), ("_works", .ref b), ("_by_name", .ref D)])
    have sp6 := sp5.swap.freeze
    have g1 := sp5.swap.new0
    have hD1 : (upd K0 D (.dK (byN ls xs))) D = some (.dK (byN ls xs)) := upd_same
    revert sp6 g1 hD1
    generalize upd K0 D (.dK (byN ls xs)) = K1
    intro sp6 g1 hD1
    refine ⟨_, rfl, _, rfl, ⟨_, Same.tup (Same.tr g1 sp6.ext) hs⟩, fun D2 hD2 => ?_⟩
    refine lc_it (walk_tup (xs := xs)) (fun i H' => ∃ K' acc, Same K1 K' ∧ Sep K' H' ((D2, .lst acc) :: (x, .ins (aC "Setup" K) dx [("_lines", .ref a), ("_works", .ref b), ("_by_name", .ref D)]) :: M) ∧ Paired (RankAt K') acc (ls.take i)) ⟨K1, [], Same.refl _, sp6.own hD2, .nil⟩ ?_ ?_ ?_
    · rintro i H' _ ⟨K', acc, g, sp, _⟩
      exact Same.tup (Same.tr (Same.tr g1 g) sp.ext) hs
    · rintro i v H1 H2 hi ⟨K', acc, g, sp, pr⟩ ⟨rfl, e2⟩
      obtain ⟨l, hl, hL⟩ := pget hp e2
      obtain ⟨c, gg, hs2, rfl, hb, _⟩ := LineAt.up (Same.tr (Same.tr g1 g) sp.ext) hL
      refine ⟨rfl, ⟨_, rfl, _, _, _, _, rfl, rfl, hb, rfl, _, rfl, _, rfl, _, _, _, _, rfl, rfl, hb, rfl, small8 (by simp), fun t ht => ?_⟩⟩
      have z := sp.keep (o := .tup [.int (-l.rank), .str l.name]) ht
      refine ⟨_, z.c0, ?_, _, _, Same.tr g (sp.newk ht), z.put0, ?_⟩
      · exact sml (m := 12) (by have := ok.le; have := pr.length; simp at this; omega) (by decide)
      · rw [take_snoc hl]
        refine Paired.snoc (pr.mono fun v l' h => ?_) ⟨t, rfl, upd_same⟩
        obtain ⟨t', e, h⟩ := h
        exact ⟨t', e, sp.newk ht _ _ h⟩
    rintro H3 ⟨K2, acc, g2, sp7, pr⟩
    rw [List.take_of_length_le (Nat.le_of_eq hlen.symm)] at pr
    refine ⟨_, _, keyOf K2, rfl, l_of sp7.c0, fun v m => ?_, fun ys p hsd hst hpf => ?_⟩
    · obtain ⟨t, i, s, rfl, h, e⟩ := ranked_mem pr m
      exact ⟨t, rfl, by rw [e]; exact sp7.ext _ _ h⟩
    have sp8 := sp7.tail.own (o := .lst ys) hpf
    have pm := hst.perm
    have lenY : ys.length = ls.length := by rw [pm.length_eq, pr.length]
    refine ⟨_, rfl, _, rfl, ⟨_, l_of sp8.c0⟩, fun D3 hD3 => ?_⟩
    refine lc_it (walk_list (xs := ys)) (fun i H' => Sep K2 H' ((D3, .lst ((ys.take i).map fun v => .str (keyOf K2 v).2)) :: (p, .lst ys) :: (x, .ins (aC "Setup" K) dx [("_lines", .ref a), ("_works", .ref b), ("_by_name", .ref D)]) :: M)) (sp8.own hD3) ?_ ?_ ?_
    · rintro i H' _ sp
      exact l_of sp.c1
    · rintro i v H1 H2 hi sp ⟨rfl, e2⟩
      obtain ⟨t, j, s, rfl, h, e⟩ := ranked_mem pr (pm.mem_iff.mp (List.mem_of_getElem? e2))
      refine ⟨_, _, rfl, t_of (sp.ext _ _ h), rfl, _, _, rfl, _, _, rfl, rfl, ?_⟩
      refine ⟨rfl, ⟨_, rfl, _, sp.c0, ?_, ?_⟩⟩
      · exact sml (m := 12) (by have := ok.le; simp; omega) (by decide)
      · rw [take_snoc e2, List.map_append]
        have z := sp.put0 (o' := .lst (List.map (fun v => V.str (keyOf K2 v).2) (List.take i ys) ++ [V.str s]))
        simpa [e] using z
    rintro H4 sp9
    rw [List.take_of_length_le (Nat.le_refl _)] at sp9
    refine ⟨_, _, rfl, .inl ⟨l_of sp9.c0, fun oa hoa => ?_⟩⟩
    have sp10 := sp9.keep (o := .tup (ys.map fun v => .str (keyOf K2 v).2)) hoa
    have g3 := sp9.newk (o := .tup (ys.map fun v => .str (keyOf K2 v).2)) hoa
    have hoa1 : upd K2 oa (.tup (ys.map fun v => .str (keyOf K2 v).2)) oa = some (.tup (ys.map fun v => .str (keyOf K2 v).2)) := upd_same
    revert sp10 g3 hoa1
    generalize upd K2 oa (.tup (ys.map fun v => .str (keyOf K2 v).2)) = K3
    intro sp10 g3 hoa1
    have sp11 := sp10.tail.tail
    refine ⟨_, rfl, _, _, _, _, rfl, sp11.c0, T.cl_Setup, T.t_Setup_order, (by simp), ?_⟩
    have sp12 := sp11.put0 (o' := .ins (aC "Setup" K) dx [("_lines", .ref a), ("_works", .ref b), ("_by_name", .ref D), ("_order", .ref oa)])
    have g4 := sp12.new0
    have gA := Same.tr g1 (Same.tr g2 (Same.tr g3 g4))
    refine q _ _ ⟨ls, ws, ys.map fun v => (keyOf K2 v).2⟩ gA sp12.freeze ⟨dx, a, b, D, oa, xs, upd_same, LinesAt.up gA ⟨xs, hs, hp⟩, WorksAt.up gA hw, Same.tr g2 (Same.tr g3 g4) _ _ hD1, hp.mono fun _ _ z => LineAt.up gA z, ?_⟩ rfl rfl ⟨ok, okw, oks, ?_, srt_of ok.nd pr pm hsd⟩
    · have z := g4 _ _ hoa1
      simpa [Function.comp_def] using z
    · have z := pm.map (fun v => (keyOf K2 v).2)
      rw [ranked_names pr] at z
      exact z
theorem ok_Setup_init {fd : FuncData} (T : Txt K mg) {dv : V} (F : FunD K "__init__" "Setup.__init__" (C8.fnArgs s_Setup_init) (C8.fnBody s_Setup_init) (C8.fnScope s_Setup_init) [dv] [] (He.ma K (aC "Setup" K) "__init__") fd) (c_check_setup : C8.Cal P w K mg base 5 "check_setup" (sp_check_setup K) []) :
    C8.Mak P w K mg base 6 "Setup" (aC "Setup" K) (sp_Setup_init K) [] := by
  exact ⟨_, fd, _, [], T.mk_Setup, fnok_Setup_init T F c_check_setup, T.g_Setup, bind_Setup_init F, .nil⟩
theorem ok_Setup_init1 {fd : FuncData} (T : Txt K mg) {dv : V} (F : FunD K "__init__" "Setup.__init__" (C8.fnArgs s_Setup_init) (C8.fnBody s_Setup_init) (C8.fnScope s_Setup_init) [dv] [] (He.ma K (aC "Setup" K) "__init__") fd) (c_check_setup : C8.Cal P w K mg base 5 "check_setup" (sp_check_setup K) []) :
    C8.Mak P w K mg base 6 "Setup" (aC "Setup" K) (sp_Setup_init K) [dv] := by
  obtain ⟨ds, hv, hb⟩ := F.binds1 (ps := ["self", "lines", "works"]) 2 0 (by simp) rfl (fun T kV doc pm an cdv ct us its h1 h2 => match us, its, h1, h2 with | [_, _], [_], _, _ => ⟨_, rfl, rfl⟩)
  exact ⟨_, fd, _, ds, T.mk_Setup, fnok_Setup_init T F c_check_setup, T.g_Setup, hb, hv⟩
end
end Cb

/-! no line has two calls -/
namespace Cb
open PySem PySem.Spec PyProof.Rows L2
def lnames (st : List CallD) : List Str := st.map (·.line.name)
structure StkOk (b : BdD) (p : PrD) : Prop where
  nd : (lnames p.stack).Nodup
  un : ∀ n, b.und n = decide (n ∈ lnames p.stack)
theorem actB_und {b : BdD} {st : SD} : (actB b st).und = b.und := by cases st <;> rfl
theorem thru_keep {ws : List WorkD} : ∀ (l : List SD) (j : Nat) (b : BdD) (p : PrD), (thru ws l j b p).2.1.und = b.und ∧ (thru ws l j b p).2.2.stack = p.stack
  | [], _, _, _ => ⟨rfl, rfl⟩
  | st :: r, j, b, p => by
    rw [thru]
    split
    · have z := thru_keep (ws := ws) r (j + 1) (actB b st) (actP ws p st)
      exact ⟨z.1.trans actB_und, z.2.trans actP_stack⟩
    · exact ⟨rfl, rfl⟩
theorem lnames_snoc {r : List CallD} {c : CallD} : lnames (r ++ [c]) = lnames r ++ [c.line.name] := by simp [lnames]
theorem goA_stk {ws : List WorkD} {b : BdD} {p : PrD} (h : StkOk b p) : StkOk (goA ws b p).1 (goA ws b p).2.1 ∧ (goA ws b p).2.1.stack.length ≤ p.stack.length := by
  rcases List.eq_nil_or_concat p.stack with e | ⟨r, c, e⟩
  · unfold goA
    rw [e]
    exact ⟨by simpa using h, by simp [e]⟩
  · rw [List.concat_eq_append] at e
    obtain ⟨nd, un⟩ := h
    rw [e, lnames_snoc] at nd
    have nm : c.line.name ∉ lnames r := fun m => by
      rw [List.nodup_append] at nd
      exact nd.2.2 _ m _ (List.mem_singleton.mpr rfl) rfl
    have nr : (lnames r).Nodup := (List.nodup_append.mp nd).1
    rw [goA_snoc e]
    have T := thru_keep (ws := ws) (c.line.steps.drop c.step) c.step b { p with stack := r }
    generalize thru ws (c.line.steps.drop c.step) c.step b { p with stack := r } = z at T
    obtain ⟨tu, ts⟩ := T
    have ts : z.2.2.stack = r := ts
    simp only
    split
    · refine ⟨⟨?_, fun n => ?_⟩, by simp [ts, e]⟩
      · show (lnames (z.2.2.stack ++ [_])).Nodup
        rw [ts, lnames_snoc]
        exact nd
      · show z.2.1.und n = decide (n ∈ lnames (z.2.2.stack ++ [_]))
        rw [tu, un, ts, e, lnames_snoc, lnames_snoc]
    · refine ⟨⟨?_, fun n => ?_⟩, by simp [ts, e]⟩
      · show (lnames z.2.2.stack).Nodup
        rw [ts]
        exact nr
      · show fset z.2.1.und c.line.name false n = decide (n ∈ lnames z.2.2.stack)
        rw [ts]
        unfold fset
        by_cases q : n = c.line.name
        · rw [if_pos q, q, decide_eq_false nm]
        · rw [if_neg q, tu, un, e, lnames_snoc]
          refine decide_eq_decide.mpr ?_
          simp [q]
theorem onA_stk {ws : List WorkD} : ∀ (n : Nat) (b : BdD) (p : PrD), StkOk b p → StkOk (onA ws n b p).1 (onA ws n b p).2.1 ∧ (onA ws n b p).2.1.stack.length ≤ p.stack.length
  | 0, _, _, h => ⟨h, Nat.le_refl _⟩
  | n + 1, b, p, h => by
    rw [onA]
    split
    · have g := goA_stk (ws := ws) h
      have z := onA_stk (ws := ws) n _ _ g.1
      exact ⟨z.1, Nat.le_trans z.2 g.2⟩
    · exact ⟨h, Nat.le_refl _⟩
theorem takeA_stk {ws : List WorkD} {b : BdD} {p : PrD} {ls : List LineD} (h : StkOk b p) (hr : ∀ l ∈ ls, b.und l.name = false) : StkOk (takeA ws b p ls).1 (takeA ws b p ls).2.1 := by
  cases ls with
  | nil => exact h
  | cons l ls =>
    unfold takeA
    simp only
    split
    · refine (goA_stk ⟨?_, fun n => ?_⟩).1
      · show (lnames (p.stack ++ [_])).Nodup
        rw [lnames_snoc, List.nodup_append]
        refine ⟨h.nd, by simp, fun a ha x hx q => ?_⟩
        have z := h.un l.name
        rw [hr l List.mem_cons_self] at z
        rw [List.mem_singleton.mp hx] at q
        rw [q] at ha
        have := of_decide_eq_false z.symm
        exact this ha
      · show fset b.und l.name true n = decide (n ∈ lnames (p.stack ++ [_]))
        rw [lnames_snoc]
        unfold fset
        by_cases q : n = l.name
        · rw [if_pos q, decide_eq_true (by rw [q]; exact List.mem_append_right _ (List.mem_singleton.mpr rfl))]
        · rw [if_neg q, h.un]
          refine decide_eq_decide.mpr ?_
          simp [q]
    · exact h
theorem spendA_stk {ws : List WorkD} {b : BdD} {p : PrD} (h : StkOk b p) : StkOk (spendA ws b p).1 (spendA ws b p).2.1 := by
  have h' : ∀ q : PrD, q.stack = p.stack → StkOk b q := fun q hq => ⟨by rw [hq]; exact h.nd, fun n => by rw [hq]; exact h.un n⟩
  rcases List.eq_nil_or_concat p.stack with e | ⟨r, c, e⟩
  · unfold spendA
    rw [e]
    simp only [List.getLast?_nil]
    split
    · exact h' _ e.symm
    · split <;> exact h' _ e.symm
  · rw [List.concat_eq_append] at e
    have hs : ∀ (k : Nat) (t x : Int), StkOk b { p with c0 := p.c0 + x, stack := r ++ [⟨c.line, k, t, c.kept⟩] } := fun k t x => by
      obtain ⟨nd, un⟩ := h
      rw [e, lnames_snoc] at nd
      refine ⟨?_, fun n => ?_⟩
      · show (lnames (r ++ [_])).Nodup
        rw [lnames_snoc]
        exact nd
      · show b.und n = decide (n ∈ lnames (r ++ [_]))
        rw [un, e, lnames_snoc, lnames_snoc]
    unfold spendA
    rw [e, last_snoc]
    simp only [List.dropLast_concat]
    split
    · exact h' _ e.symm
    · split
      · exact hs _ _ _
      · exact (goA_stk (hs _ _ _)).1
    · exact h
theorem tickA_stk {S : SetD} {b : BdD} {p : PrD} (h : StkOk b p) : StkOk (tickA S.ws S b p).1 (tickA S.ws S b p).2.1 := by
  unfold tickA
  simp only
  refine spendA_stk (onA_stk _ _ _ (takeA_stk h fun l m => ?_)).1
  have z := (List.mem_filter.mp m).2
  unfold readyB at z
  rw [Bool.and_eq_true, Bool.not_eq_true'] at z
  exact z.2
theorem StkOk.len {S : SetD} {b : BdD} {p : PrD} (h : StkOk b p) (ok : SetOk S) (hc : ∀ c ∈ p.stack, c.line ∈ S.ls) : p.stack.length ≤ 12 := by
  have hsub : lnames p.stack ⊆ S.ls.map (·.name) := fun n m => by
    obtain ⟨c, hcm, rfl⟩ := List.mem_map.mp m
    exact List.mem_map_of_mem (hc c hcm)
  have z := List.Nodup.length_le_of_subset h.nd hsub
  unfold lnames at z
  rw [List.length_map, List.length_map] at z
  exact Nat.le_trans z ok.ok.le
end Cb

/-! a work is queued at most twice -/
namespace Cb
open PySem PySem.Spec PyProof.Rows L2
abbrev Rw := Str × Int
structure RwOk (ws : List WorkD) (rows : List Rw) : Prop where
  inn : RowsIn ws rows
  srt : rows.Pairwise fun a b => rankOf ws b.1 ≤ rankOf ws a.1
  two : rows.Pairwise fun a b => a.1 = b.1 → b.2 = 0 ∧ 0 < a.2
  nn : ∀ r ∈ rows, 0 ≤ r.2
theorem cut_sorted {α : Type} {p : α → Bool} : ∀ {l : List α}, l.Pairwise (fun a b => p b = true → p a = true) → (∀ x ∈ l.take (l.filter p).length, p x = true) ∧ ∀ x ∈ l.drop (l.filter p).length, p x = false
  | [], _ => ⟨fun _ m => by simp at m, fun _ m => by simp at m⟩
  | a :: l, h => by
    obtain ⟨h1, h2⟩ := List.pairwise_cons.mp h
    have ih := cut_sorted h2
    cases e : p a with
    | true =>
      rw [List.filter_cons, if_pos e, List.length_cons, List.take_succ_cons, List.drop_succ_cons]
      refine ⟨fun x m => ?_, ih.2⟩
      rcases List.mem_cons.mp m with m | m
      · rw [m]
        exact e
      · exact ih.1 x m
    | false =>
      have hn : ∀ x ∈ l, p x = false := fun x m => by
        cases q : p x with
        | false => rfl
        | true =>
          have := h1 x m q
          rw [e] at this
          cases this
      have hf : (a :: l).filter p = [] := by
        refine List.filter_eq_nil_iff.mpr fun x m => ?_
        rcases List.mem_cons.mp m with m | m
        · rw [m, e]
          simp
        · rw [hn x m]
          simp
      rw [hf]
      refine ⟨fun x m => by simp at m, fun x m => ?_⟩
      rcases List.mem_cons.mp (by simpa using m) with m | m
      · rw [m]
        exact e
      · exact hn x m
theorem putR_ok {ws : List WorkD} {rows : List Rw} {w : WorkD} (h : RwOk ws rows) (hw : w ∈ ws) : RwOk ws (putR ws rows w.name 0) := by
  have hin := putR_in (x := 0) h.inn hw
  unfold putR at hin ⊢
  by_cases hm : (w.name, 0) ∈ rows
  · rw [if_pos ⟨rfl, hm⟩]
    exact h
  rw [if_neg fun z => hm z.2] at hin ⊢
  simp only at hin ⊢
  have C := cut_sorted (p := fun r : Rw => decide (rankOf ws w.name ≤ rankOf ws r.1)) (l := rows) (h.srt.imp fun {a b} z q => decide_eq_true (Int.le_trans (of_decide_eq_true q) z))
  generalize (rows.filter fun r => decide (rankOf ws w.name ≤ rankOf ws r.1)).length = k at C hin ⊢
  have et : rows = rows.take k ++ rows.drop k := (List.take_append_drop k rows).symm
  have s1 := h.srt
  have t1 := h.two
  rw [et] at s1 t1
  obtain ⟨sa, sb, sc⟩ := List.pairwise_append.mp s1
  obtain ⟨ta, tb, tc⟩ := List.pairwise_append.mp t1
  have ct : ∀ x ∈ rows.take k, rankOf ws w.name ≤ rankOf ws x.1 := fun x m => of_decide_eq_true (C.1 x m)
  have cd : ∀ x ∈ rows.drop k, ¬ rankOf ws w.name ≤ rankOf ws x.1 := fun x m => of_decide_eq_false (C.2 x m)
  refine ⟨hin, ?_, ?_, fun r m => ?_⟩
  · rw [List.append_assoc]
    refine List.pairwise_append.mpr ⟨sa, List.pairwise_cons.mpr ⟨fun y my => ?_, sb⟩, fun x mx y my => ?_⟩
    · have := cd y my
      show rankOf ws y.1 ≤ rankOf ws w.name
      omega
    · rcases List.mem_cons.mp my with q | q
      · rw [q]
        exact ct x mx
      · exact sc x mx y q
  · rw [List.append_assoc]
    refine List.pairwise_append.mpr ⟨ta, List.pairwise_cons.mpr ⟨fun y my q => ?_, tb⟩, fun x mx y my q => ?_⟩
    · have := cd y my
      have q : w.name = y.1 := q
      rw [← q] at this
      omega
    · rcases List.mem_cons.mp my with z | z
      · rw [z] at q ⊢
        have q : x.1 = w.name := q
        have hx := h.nn x (List.mem_of_mem_take mx)
        refine ⟨rfl, ?_⟩
        rcases Int.lt_or_le 0 x.2 with z2 | z2
        · exact z2
        · exfalso
          refine hm ?_
          rw [← q, show (0 : Int) = x.2 by omega]
          exact List.mem_of_mem_take mx
      · exact tc x mx y z q
  · simp only [List.mem_append, List.mem_singleton] at m
    rcases m with (m | m) | m
    · exact h.nn r (List.mem_of_mem_take m)
    · rw [m]
      exact Int.le_refl 0
    · exact h.nn r (List.mem_of_mem_drop m)
theorem RwOk.tail {ws : List WorkD} {r : Rw} {rows : List Rw} (h : RwOk ws (r :: rows)) : RwOk ws rows :=
  ⟨fun x m => h.inn x (List.mem_cons_of_mem _ m), (List.pairwise_cons.mp h.srt).2, (List.pairwise_cons.mp h.two).2, fun x m => h.nn x (List.mem_cons_of_mem _ m)⟩
theorem RwOk.bump {ws : List WorkD} {n : Str} {t : Int} {rows : List Rw} (h : RwOk ws ((n, t) :: rows)) : RwOk ws ((n, t + 1) :: rows) := by
  have ht := h.nn (n, t) List.mem_cons_self
  have ht : 0 ≤ t := ht
  obtain ⟨s1, s2⟩ := List.pairwise_cons.mp h.srt
  obtain ⟨t1, t2⟩ := List.pairwise_cons.mp h.two
  refine ⟨fun x m => ?_, List.pairwise_cons.mpr ⟨s1, s2⟩, List.pairwise_cons.mpr ⟨fun y my q => ⟨(t1 y my q).1, by show 0 < t + 1; omega⟩, t2⟩, fun x m => ?_⟩
  · rcases List.mem_cons.mp m with q | q
    · rw [q]
      exact h.inn (n, t) List.mem_cons_self
    · exact h.inn x (List.mem_cons_of_mem _ q)
  · rcases List.mem_cons.mp m with q | q
    · rw [q]
      show 0 ≤ t + 1
      omega
    · exact h.nn x (List.mem_cons_of_mem _ q)
theorem RwOk.len {ws : List WorkD} {rows : List Rw} (h : RwOk ws rows) : rows.length ≤ 2 * ws.length := by
  have part : ∀ p : Rw → Bool, (∀ a b : Rw, p a = true → p b = true → ¬ (b.2 = 0 ∧ 0 < a.2)) → (rows.filter p).length ≤ ws.length := fun p hp => by
    have nd : ((rows.filter p).map (·.1)).Nodup := by
      unfold List.Nodup
      rw [List.pairwise_map]
      refine (List.Pairwise.and_mem.mp (List.Pairwise.filter p h.two)).imp fun {a b} z q => ?_
      exact hp a b (List.mem_filter.mp z.1).2 (List.mem_filter.mp z.2.1).2 (z.2.2 q)
    have sub : (rows.filter p).map (·.1) ⊆ ws.map (·.name) := fun n m => by
      obtain ⟨r, hr, rfl⟩ := List.mem_map.mp m
      obtain ⟨w, hw, e⟩ := h.inn r (List.mem_filter.mp hr).1
      exact e ▸ List.mem_map_of_mem hw
    have z := List.Nodup.length_le_of_subset nd sub
    rwa [List.length_map, List.length_map] at z
  have z1 := part (fun r => decide (r.2 = 0)) fun a b ha _ q => by
    have := of_decide_eq_true ha
    omega
  have z2 := part (fun r => !decide (r.2 = 0)) fun a b _ hb q => by
    rw [decide_eq_true q.1] at hb
    cases hb
  have z3 := List.length_eq_countP_add_countP (fun r : Rw => decide (r.2 = 0)) (l := rows)
  rw [List.countP_eq_length_filter, List.countP_eq_length_filter] at z3
  have z4 : (rows.filter fun r => decide ¬ decide (r.2 = 0) = true) = rows.filter fun r => !decide (r.2 = 0) := List.filter_congr fun r _ => by simp
  rw [z4] at z3
  omega
end Cb

/-! what holds of a board and a processor for ever -/
namespace Cb
open PySem PySem.Spec PyProof.Rows L2
structure GoodA (S : SetD) (b : BdD) (p : PrD) : Prop where
  calls : ∀ c ∈ p.stack, CallOk S c
  stk : StkOk b p
  rows : RwOk S.ws p.rows
  fl : b.fl.length = 8
theorem actP_rw {S : SetD} {p : PrD} {st : SD} (h : RwOk S.ws p.rows) (ok : StepOk S.ls S.ws st) : RwOk S.ws (actP S.ws p st).rows := by
  cases st <;> try exact h
  case later w =>
    obtain ⟨x, hx, rfl⟩ := ok
    exact putR_ok h hx
theorem thru_rw {S : SetD} : ∀ (l : List SD) (j : Nat) (b : BdD) (p : PrD), (∀ st ∈ l, StepOk S.ls S.ws st) → RwOk S.ws p.rows → RwOk S.ws (thru S.ws l j b p).2.2.rows
  | [], _, _, _, _, h => h
  | st :: r, j, b, p, ok, h => by
    rw [thru]
    split
    · exact thru_rw r _ _ _ (fun s m => ok s (List.mem_cons_of_mem _ m)) (actP_rw h (ok st List.mem_cons_self))
    · exact h
theorem goA_rw {S : SetD} {b : BdD} {p : PrD} {r : List CallD} {c : CallD} (ok : SetOk S) (h : p.stack = r ++ [c]) (hl : c.line ∈ S.ls) (hr : RwOk S.ws p.rows) : RwOk S.ws (goA S.ws b p).2.1.rows := by
  rw [goA_snoc h]
  have T := thru_rw (S := S) (c.line.steps.drop c.step) c.step b { p with stack := r } (fun st m => ok.all c.line hl st (List.mem_of_mem_drop m)) hr
  generalize thru S.ws (c.line.steps.drop c.step) c.step b { p with stack := r } = z at T
  simp only
  split <;> exact T
theorem goA_good {S : SetD} {b : BdD} {p : PrD} {r : List CallD} {c : CallD} (ok : SetOk S) (h : p.stack = r ++ [c]) (hl : c.line ∈ S.ls) (hs : c.step ≤ c.line.steps.length) (ht : c.ticks = 0) (hr : ∀ c' ∈ r, CallOk S c') (k : StkOk b p) (w : RwOk S.ws p.rows) (fl : b.fl.length = 8) : GoodA S (goA S.ws b p).1 (goA S.ws b p).2.1 := by
  have G := goA_ok (b := b) ok h hl hs ht hr w.inn
  exact ⟨G.calls, (goA_stk k).1, goA_rw ok h hl w, G.fl.trans fl⟩
theorem onA_good {S : SetD} (ok : SetOk S) : ∀ (n : Nat) (b : BdD) (p : PrD), GoodA S b p → GoodA S (onA S.ws n b p).1 (onA S.ws n b p).2.1
  | 0, _, _, h => h
  | n + 1, b, p, h => by
    cases e : passes b p with
    | false =>
      rw [onA_no e]
      exact h
    | true =>
      rw [onA_yes e]
      obtain ⟨r, c, f, e1, ef⟩ := passes_top e
      have hc := h.calls c (by rw [e1]; simp)
      have hlt := (List.getElem?_eq_some_iff.mp (show c.line.steps[c.step]? = some (.await f) from ef)).1
      have ht : c.ticks = 0 := by
        rcases hc.st with ⟨z, hz, _⟩ | ⟨_, _, hz⟩
        · rw [ef] at hz
          cases hz
        · exact hz
      exact onA_good ok n _ _ (goA_good ok e1 hc.ln (Nat.le_of_lt hlt) ht (fun c' m => h.calls c' (by rw [e1]; exact List.mem_append_left _ m)) h.stk h.rows h.fl)
theorem spendA_good {S : SetD} {b : BdD} {p : PrD} (ok : SetOk S) (h : GoodA S b p) : GoodA S (spendA S.ws b p).1 (spendA S.ws b p).2.1 := by
  have K := spendA_stk (ws := S.ws) h.stk
  rcases List.eq_nil_or_concat p.stack with e | ⟨r, c, e⟩
  · rw [spendA_nil e] at K ⊢
    cases hr : p.rows with
    | nil =>
      rw [hr] at K
      have z := h.rows
      rw [hr] at z
      exact ⟨h.calls, ⟨h.stk.nd, h.stk.un⟩, z, h.fl⟩
    | cons x rows =>
      obtain ⟨n, t⟩ := x
      have hw := h.rows
      rw [hr] at hw
      simp only
      split
      · exact ⟨h.calls, ⟨h.stk.nd, h.stk.un⟩, hw.bump, h.fl⟩
      · exact ⟨h.calls, ⟨h.stk.nd, h.stk.un⟩, hw.tail, h.fl⟩
  · rw [List.concat_eq_append] at e
    have hc := h.calls c (by rw [e]; simp)
    have hr : ∀ c' ∈ r, CallOk S c' := fun c' m => h.calls c' (by rw [e]; exact List.mem_append_left _ m)
    rcases hc.st with ⟨n, hn, h0, h1⟩ | ⟨f, hf, hz⟩
    · rw [spendA_run e hn] at K ⊢
      by_cases hlt : c.ticks + 1 < n
      · rw [if_pos hlt] at K ⊢
        refine ⟨fun c' m => ?_, K, h.rows, h.fl⟩
        rcases List.mem_append.mp m with m | m
        · exact hr c' m
        · rw [List.mem_singleton.mp m]
          exact ⟨hc.ln, .inl ⟨n, hn, by show 0 ≤ c.ticks + 1; omega, hlt⟩⟩
      · rw [if_neg hlt]
        have hk : StkOk b { p with c0 := p.c0 + 1, stack := r ++ [⟨c.line, c.step + 1, 0, c.kept⟩] } := by
          have a := h.stk.nd
          have u := h.stk.un
          rw [e, lnames_snoc] at a
          refine ⟨?_, fun m => ?_⟩
          · show (lnames (r ++ [_])).Nodup
            rw [lnames_snoc]
            exact a
          · show b.und m = decide (m ∈ lnames (r ++ [_]))
            rw [u, e, lnames_snoc, lnames_snoc]
        have hlt2 := (List.getElem?_eq_some_iff.mp (show c.line.steps[c.step]? = some (.run n) from hn)).1
        exact goA_good ok (c := ⟨c.line, c.step + 1, 0, c.kept⟩) rfl hc.ln hlt2 rfl hr hk h.rows h.fl
    · rw [spendA_await e hf] at K ⊢
      exact ⟨h.calls, K, h.rows, h.fl⟩
theorem takeA_good {S : SetD} {b : BdD} {p : PrD} {ls : List LineD} (ok : SetOk S) (h : GoodA S b p) (hls : ∀ l ∈ ls, l ∈ S.ls) (hu : ∀ l ∈ ls, b.und l.name = false) : GoodA S (takeA S.ws b p ls).1 (takeA S.ws b p ls).2.1 := by
  have K := takeA_stk (ws := S.ws) h.stk hu
  have T := takeA_ok (b := b) ok h.calls h.rows.inn hls
  cases ls with
  | nil => exact h
  | cons l ls =>
    by_cases hb : floorA p < l.rank
    · have e : takeA S.ws b p (l :: ls) = ((goA S.ws (beginB b l) { p with stack := p.stack ++ [⟨l, 0, 0, p.bar⟩] }).1, (goA S.ws (beginB b l) { p with stack := p.stack ++ [⟨l, 0, 0, p.bar⟩] }).2.1, .bgn l :: (goA S.ws (beginB b l) { p with stack := p.stack ++ [⟨l, 0, 0, p.bar⟩] }).2.2) := if_pos hb
      rw [e] at K T ⊢
      have G := goA_ok (b := beginB b l) (p := { p with stack := p.stack ++ [⟨l, 0, 0, p.bar⟩] }) ok rfl (hls l List.mem_cons_self) (Nat.zero_le _) rfl h.calls h.rows.inn
      exact ⟨T.calls, K, goA_rw (p := { p with stack := p.stack ++ [⟨l, 0, 0, p.bar⟩] }) ok rfl (hls l List.mem_cons_self) h.rows, G.fl.trans h.fl⟩
    · rw [show takeA S.ws b p (l :: ls) = (b, p, []) from if_neg hb]
      exact h
theorem tickA_good {S : SetD} {b : BdD} {p : PrD} (ok : SetOk S) (h : GoodA S b p) : GoodA S (tickA S.ws S b p).1 (tickA S.ws S b p).2.1 := by
  unfold tickA
  simp only
  refine spendA_good ok (onA_good ok _ _ _ (takeA_good ok h (fun l m => linesO_mem ok (List.mem_filter.mp m).1) fun l m => ?_))
  have z := (List.mem_filter.mp m).2
  unfold readyB at z
  rw [Bool.and_eq_true, Bool.not_eq_true'] at z
  exact z.2
theorem deed_good {S : SetD} {b : BdD} {p : PrD} {st : SD} (h : GoodA S b p) : GoodA S (actB b st) p := ⟨h.calls, ⟨h.stk.nd, fun n => by rw [actB_und]; exact h.stk.un n⟩, h.rows, actB_len.trans h.fl⟩
theorem good0 {S : SetD} : GoodA S bd0 pr0 := ⟨(fun _ m => by cases m), ⟨List.Pairwise.nil, fun _ => rfl⟩, ⟨(fun _ m => by cases m), List.Pairwise.nil, List.Pairwise.nil, (fun _ m => by cases m)⟩, by simp [bd0]⟩
theorem GoodA.stack12 {S : SetD} {b : BdD} {p : PrD} (ok : SetOk S) (h : GoodA S b p) : p.stack.length ≤ 12 := h.stk.len ok fun c m => (h.calls c m).ln
theorem GoodA.rows16 {S : SetD} {b : BdD} {p : PrD} (ok : SetOk S) (h : GoodA S b p) : p.rows.length ≤ 16 := by
  have z := h.rows.len
  have y := ok.okw.le
  omega
end Cb

/-! values that read as data, lists as they stand -/
namespace Cb
open PySem PySem.Spec PyProof.Rows L2
mutual
def Dq (K : PySem.W.Frag) (H : Hp) : PyData → V → Prop
  | .none, v => v = .non
  | .bool b, v => v = .bl b
  | .int i, v => v = .int i
  | .str x, v => v = .str x
  | .list ds, v => ∃ a xs, v = .ref a ∧ H a = some (.lst xs) ∧ DqAll K H ds xs
  | .tuple ds, v => ∃ a xs, v = .ref a ∧ SqT K H a xs ∧ DqAll K H ds xs
  | .dict _, _ => False
def DqAll (K : PySem.W.Frag) (H : Hp) : List PyData → List V → Prop
  | [], xs => xs = []
  | d :: ds, xs => ∃ x r, xs = x :: r ∧ Dq K H d x ∧ DqAll K H ds r
end
section
variable {K : PySem.W.Frag} {H H' : Hp}
mutual
theorem Dq.up (e : Same H H') : ∀ (d : PyData) (v : V), Dq K H d v → Dq K H' d v
  | .none, _, h => by
    rw [Dq] at h ⊢
    exact h
  | .bool _, _, h => by
    rw [Dq] at h ⊢
    exact h
  | .int _, _, h => by
    rw [Dq] at h ⊢
    exact h
  | .str _, _, h => by
    rw [Dq] at h ⊢
    exact h
  | .list ds, v, h => by
    rw [Dq] at h ⊢
    obtain ⟨a, xs, h1, h2, h3⟩ := h
    exact ⟨a, xs, h1, e _ _ h2, DqAll.up e ds xs h3⟩
  | .tuple ds, v, h => by
    rw [Dq] at h ⊢
    obtain ⟨a, xs, h1, h2, h3⟩ := h
    exact ⟨a, xs, h1, Same.tup e h2, DqAll.up e ds xs h3⟩
  | .dict _, _, h => by
    rw [Dq] at h
    exact h.elim
theorem DqAll.up (e : Same H H') : ∀ (ds : List PyData) (xs : List V), DqAll K H ds xs → DqAll K H' ds xs
  | [], xs, h => by
    rw [DqAll] at h ⊢
    exact h
  | d :: ds, xs, h => by
    rw [DqAll] at h ⊢
    obtain ⟨x, r, h1, h2, h3⟩ := h
    exact ⟨x, r, h1, Dq.up e d x h2, DqAll.up e ds r h3⟩
end
mutual
theorem Dq.dp : ∀ (d : PyData) (v : V), Dq K H d v → Dp K H v d
  | .none, _, h => by
    rw [Dq] at h
    subst h
    exact .non
  | .bool _, _, h => by
    rw [Dq] at h
    subst h
    exact .bl _
  | .int _, _, h => by
    rw [Dq] at h
    subst h
    exact .int _
  | .str _, _, h => by
    rw [Dq] at h
    subst h
    exact .str _
  | .list ds, v, h => by
    rw [Dq] at h
    obtain ⟨a, xs, rfl, h2, h3⟩ := h
    exact .lst (l_of h2) (DqAll.dp ds xs h3)
  | .tuple ds, v, h => by
    rw [Dq] at h
    obtain ⟨a, xs, rfl, h2, h3⟩ := h
    exact .tup h2 (DqAll.dp ds xs h3)
  | .dict _, _, h => by
    rw [Dq] at h
    exact h.elim
theorem DqAll.dp : ∀ (ds : List PyData) (xs : List V), DqAll K H ds xs → DpAll K H xs ds
  | [], xs, h => by
    rw [DqAll] at h
    subst h
    exact .nil
  | d :: ds, xs, h => by
    rw [DqAll] at h
    obtain ⟨x, r, rfl, h2, h3⟩ := h
    exact .cons (Dq.dp d x h2) (DqAll.dp ds r h3)
end
theorem DqAll.len : ∀ {ds : List PyData} {xs : List V}, DqAll K H ds xs → xs.length = ds.length
  | [], xs, h => by
    rw [DqAll] at h
    subst h
    rfl
  | d :: ds, xs, h => by
    rw [DqAll] at h
    obtain ⟨x, r, rfl, h2, h3⟩ := h
    rw [List.length_cons, List.length_cons, DqAll.len h3]
theorem DqAll.get : ∀ {ds : List PyData} {xs : List V}, DqAll K H ds xs → ∀ {i : Nat} {x : V}, xs[i]? = some x → ∃ d, ds[i]? = some d ∧ Dq K H d x
  | [], xs, h, i, x, e => by
    rw [DqAll] at h
    subst h
    simp at e
  | d :: ds, xs, h, i, x, e => by
    rw [DqAll] at h
    obtain ⟨y, r, rfl, h2, h3⟩ := h
    cases i with
    | zero =>
      simp at e
      subst e
      exact ⟨d, rfl, h2⟩
    | succ i =>
      simp at e
      obtain ⟨z, hz, hq⟩ := DqAll.get h3 e
      exact ⟨z, by simpa using hz, hq⟩
theorem dqAll_of {α : Type} {F : V → α → Prop} {g : α → PyData} (hf : ∀ v a, F v a → Dq K H (g a) v) : ∀ {xs : List V} {as : List α}, Paired F xs as → DqAll K H (as.map g) xs
  | _, _, .nil => by
    rw [List.map_nil, DqAll]
  | _, _, .cons h p => by
    rw [List.map_cons, DqAll]
    exact ⟨_, _, rfl, hf _ _ h, dqAll_of hf p⟩
theorem dq_ints : ∀ {l : List Int}, DqAll K H (l.map PyData.int) (l.map V.int)
  | [] => by rw [List.map_nil, DqAll, List.map_nil]
  | i :: l => by
    rw [List.map_cons, List.map_cons, DqAll]
    exact ⟨_, _, rfl, by rw [Dq], dq_ints⟩
theorem depth_le_all : ∀ {ds : List PyData} {d : PyData}, d ∈ ds → d.depth ≤ PyData.depthAll ds
  | [], _, h => by cases h
  | e :: ds, d, h => by
    rw [PyData.depthAll]
    rcases List.mem_cons.mp h with q | q
    · rw [q]
      omega
    · have := depth_le_all q
      omega
end
mutual
/-- no list or tuple within is very long -/
def wOk : PyData → Prop
  | .list ds => ds.length ≤ 10000 ∧ wOkAll ds
  | .tuple ds => ds.length ≤ 10000 ∧ wOkAll ds
  | _ => True
def wOkAll : List PyData → Prop
  | [] => True
  | d :: ds => wOk d ∧ wOkAll ds
end
theorem wOkAll.mem : ∀ {ds : List PyData} {d : PyData}, wOkAll ds → d ∈ ds → wOk d
  | [], _, _, h => by cases h
  | e :: ds, d, w, h => by
    rw [wOkAll] at w
    rcases List.mem_cons.mp h with q | q
    · rw [q]
      exact w.1
    · exact wOkAll.mem w.2 q
theorem wOkAll.of : ∀ {ds : List PyData}, (∀ d ∈ ds, wOk d) → wOkAll ds
  | [], _ => by rw [wOkAll]; trivial
  | e :: ds, h => by
    rw [wOkAll]
    exact ⟨h e List.mem_cons_self, wOkAll.of fun d m => h d (List.mem_cons_of_mem _ m)⟩
theorem wOk.int (i : Int) : wOk (.int i) := by rw [wOk] <;> first | trivial | (intro _ h; cases h)
theorem kbS : kitB "str" "bool" = some false := by decide +kernel
theorem kbL : kitB "list" "tuple" = some false := by decide +kernel
theorem kbB : kitB "bool" "bool" = some true := by decide +kernel
theorem kbN : kitB "NoneType" "bool" = some false := by decide +kernel
theorem kaT {K : PySem.W.Frag} : PySem.W.kitAny K (.type "tuple") [.type "tuple", .type "list"] = some true := by rfl
theorem kaL {K : PySem.W.Frag} : PySem.W.kitAny K (.type "list") [.type "tuple", .type "list"] = some true := by rfl
theorem kaS {K : PySem.W.Frag} : PySem.W.kitAny K (.type "str") [.type "tuple", .type "list"] = some false := by rfl
theorem kaI {K : PySem.W.Frag} : PySem.W.kitAny K (.type "int") [.type "tuple", .type "list"] = some false := by rfl
theorem kaB {K : PySem.W.Frag} : PySem.W.kitAny K (.type "bool") [.type "tuple", .type "list"] = some false := by rfl
theorem kaN {K : PySem.W.Frag} : PySem.W.kitAny K (.type "NoneType") [.type "tuple", .type "list"] = some false := by rfl
end Cb

namespace Cb
open PySem PySem.Spec PyProof.Rows L2

def rowO (sc : Addr) (i g x : Int) : HO := .lst [.ref sc, .int i, .int g, .int x]
def sp_law_taken (K : PySem.W.Frag) : Sp := fun vs H Q _ => ∃ (row sc : Addr) (m : Int) (ns : List Int) (i g x : Int) (K0 : Hp) (M : List (Addr × HO)), vs = [.ref row, .int m] ∧ 0 < m ∧ m < 100000 ∧ 0 ≤ i ∧ (0 ≤ g ∧ g < 2147483647) ∧ SqL K K0 sc (ns.map V.int) ∧ Sep K0 H ((row, rowO sc i g x) :: M) ∧
  ∀ H' i' g' x' r, 0 ≤ i' → (0 ≤ g' ∧ g' < 2147483647) → 0 ≤ r → r < m → Sep K0 H' ((row, rowO sc i' g' x') :: M) → Q (.int r) H'
def Dr (K' H : Hp) (row sc : Addr) (M : List (Addr × HO)) : Prop := ∃ i g x, 0 ≤ i ∧ (0 ≤ g ∧ g < 2147483647) ∧ Sep K' H ((row, rowO sc i g x) :: M)
def sp_law (K : PySem.W.Frag) : Sp := fun vs H Q _ => ∃ (a : Addr) (ns : List Int), vs = [.ref a] ∧ SqL K H a (ns.map V.int) ∧ ∀ H', Q (.bl true) H'
theorem taken {K : PySem.W.Frag} {row sc : Addr} {m : Int} {ns : List Int} {K0 H : Hp} {M : List (Addr × HO)} {Q : VK} {E : XK} (hm : 0 < m) (hm2 : m < 100000) (hsc : SqL K K0 sc (ns.map V.int)) (d : Dr K0 H row sc M) (q : ∀ H' r, 0 ≤ r → r < m → Dr K0 H' row sc M → Q (.int r) H') : sp_law_taken K [.ref row, .int m] H Q E := by
  obtain ⟨i, g, x, hi, hg, sp⟩ := d
  exact ⟨row, sc, m, ns, i, g, x, K0, M, rfl, hm, hm2, hi, hg, hsc, sp, fun H' i' g' x' r h1 h2 h3 h4 sp' => q H' r h3 h4 ⟨i', g', x', h1, h2, sp'⟩⟩
section
variable {K' H : Hp} {row sc : Addr} {M : List (Addr × HO)}
theorem Dr.ext (d : Dr K' H row sc M) : Same K' H := d.elim fun _ h => h.elim fun _ h => h.elim fun _ h => h.2.2.ext
theorem Dr.own (d : Dr K' H row sc M) {p : Addr} {o : HO} (h : H p = none) : Dr K' (upd H p o) row sc ((p, o) :: M) := by
  obtain ⟨i, g, x, hi, hg, sp⟩ := d
  exact ⟨i, g, x, hi, hg, (sp.own h).swap⟩
theorem Dr.drop (d : Dr K' H row sc M) {p : Addr} {o : HO} (h : H p = none) : Dr K' (upd H p o) row sc M := by
  obtain ⟨i, g, x, hi, hg, sp⟩ := d
  exact ⟨i, g, x, hi, hg, sp.drop h⟩
theorem Dr.keep (d : Dr K' H row sc M) {p : Addr} {o : HO} (h : H p = none) : Dr (upd K' p o) (upd H p o) row sc M ∧ Same K' (upd K' p o) := by
  obtain ⟨i, g, x, hi, hg, sp⟩ := d
  exact ⟨⟨i, g, x, hi, hg, sp.keep h⟩, sp.newk h⟩
theorem Dr.at0 {p : Addr} {o : HO} (d : Dr K' H row sc ((p, o) :: M)) : H p = some o := by
  obtain ⟨i, g, x, hi, hg, sp⟩ := d
  exact sp.c1
theorem Dr.at1 {p : Addr} {o : HO} {e : Addr × HO} (d : Dr K' H row sc (e :: (p, o) :: M)) : H p = some o := by
  obtain ⟨i, g, x, hi, hg, sp⟩ := d
  exact sp.c2
theorem Dr.put {p : Addr} {o o' : HO} (d : Dr K' H row sc ((p, o) :: M)) : Dr K' (upd H p o') row sc ((p, o') :: M) := by
  obtain ⟨i, g, x, hi, hg, sp⟩ := d
  exact ⟨i, g, x, hi, hg, sp.put1⟩
theorem Dr.tail {e : Addr × HO} (d : Dr K' H row sc (e :: M)) : Dr K' H row sc M := by
  obtain ⟨i, g, x, hi, hg, sp⟩ := d
  exact ⟨i, g, x, hi, hg, sp.swap.tail⟩
theorem Dr.freeze {p : Addr} {o : HO} (d : Dr K' H row sc ((p, o) :: M)) : Dr (upd K' p o) H row sc M ∧ Same K' (upd K' p o) := by
  obtain ⟨i, g, x, hi, hg, sp⟩ := d
  exact ⟨⟨i, g, x, hi, hg, sp.swap.freeze⟩, sp.swap.new0⟩
end
theorem takenV {K : PySem.W.Frag} {row sc : Addr} {m : Int} {ns : List Int} {K0 H : Hp} {M : List (Addr × HO)} {σ : L2.St} {Q : VK} {E : XK} {v : Nat} (hσ : σ[v]? = some (some (V.ref row))) (hm : 0 < m) (hm2 : m < 100000) (hsc : SqL K K0 sc (ns.map V.int)) (d : Dr K0 H row sc M) (q : ∀ H' r, 0 ≤ r → r < m → Dr K0 H' row sc M → Q (.int r) H') : tCall (sp_law_taken K) [] E (tCons (tVar v) (tCons (tC (.int m)) tNil)) σ H Q := ⟨_, hσ, taken (E := E) hm hm2 hsc d q⟩
theorem takenW {K : PySem.W.Frag} {row sc : Addr} {m : Int} {ns : List Int} {K0 H : Hp} {M : List (Addr × HO)} {σ : L2.St} {Q : VK} {E : XK} {v u : Nat} (hσ : σ[v]? = some (some (V.ref row))) (hu : σ[u]? = some (some (V.int m))) (hm : 0 < m) (hm2 : m < 100000) (hsc : SqL K K0 sc (ns.map V.int)) (d : Dr K0 H row sc M) (q : ∀ H' r, 0 ≤ r → r < m → Dr K0 H' row sc M → Q (.int r) H') : tCall (sp_law_taken K) [] E (tCons (tVar v) (tCons (tVar u) tNil)) σ H Q := ⟨_, hσ, _, hu, taken (E := E) hm hm2 hsc d q⟩
theorem takenQ {K : PySem.W.Frag} {row sc : Addr} {ns : List Int} {K0 H : Hp} {M : List (Addr × HO)} {σ : L2.St} {Q : VK} {E : XK} {v : Nat} {te : TE} (m : Int) (hσ : σ[v]? = some (some (V.ref row))) (h : ∀ Q' : VK, Q' (.int m) H → te σ H Q') (hm : 0 < m) (hm2 : m < 100000) (hsc : SqL K K0 sc (ns.map V.int)) (d : Dr K0 H row sc M) (q : ∀ H' r, 0 ≤ r → r < m → Dr K0 H' row sc M → Q (.int r) H') : tCall (sp_law_taken K) [] E (tCons (tVar v) (tCons te tNil)) σ H Q := ⟨_, hσ, h _ (taken (E := E) hm hm2 hsc d q)⟩
def FlatOk (x : V) : Prop := (∃ i, x = .int i) ∨ ∃ s, x = .str s ∧ nameOk s
def toD : V → PyData
  | .int i => .int i
  | .str s => .str s
  | _ => .none
theorem flat_dp {K : PySem.W.Frag} {H : Hp} : ∀ {l : List V}, (∀ x ∈ l, FlatOk x) → DpAll K H l (l.map toD)
  | [], _ => .nil
  | x :: l, h => by
    rcases h x List.mem_cons_self with ⟨i, rfl⟩ | ⟨s, rfl, _⟩
    · exact .cons (.int i) (flat_dp fun y m => h y (List.mem_cons_of_mem _ m))
    · exact .cons (.str s) (flat_dp fun y m => h y (List.mem_cons_of_mem _ m))
theorem flat_lay : ∀ {l : List V}, (∀ x ∈ l, FlatOk x) → PyData.canLayAll0 (l.map toD) = true ∧ PyData.depthAll (l.map toD) ≤ 1
  | [], _ => by simp [PyData.canLayAll0, PyData.depthAll]
  | x :: l, h => by
    have z := flat_lay (l := l) fun y m => h y (List.mem_cons_of_mem _ m)
    rcases h x List.mem_cons_self with ⟨i, rfl⟩ | ⟨s, rfl, hs⟩
    · simp [toD, PyData.canLayAll0, PyData.canLay0, PyData.depthAll, PyData.depth, z.1, z.2]
    · simp [toD, PyData.canLayAll0, PyData.canLay0, PyData.depthAll, PyData.depth, z.1, z.2, sok hs]
theorem flat_sh {l : List V} (h : ∀ x ∈ l, FlatOk x) : SeqAt.shaped (.list (l.map toD)) = true := by
  have z := flat_lay h
  unfold SeqAt.shaped
  simp [PyData.canLay0, z.1, PyData.depth]
  omega
theorem flat_nil (l : List V) : PyData.eqv (.list (l.map toD)) (.list []) = l.isEmpty := by
  cases l <;> simp [PyData.eqv, PyData.eqvAll]
theorem takenLv {K : PySem.W.Frag} {row sc : Addr} {rv v : Nat} {p : Addr} {acc : List V} {ns : List Int} {K0 H : Hp} {M : List (Addr × HO)} {σ : L2.St} {Q : VK} {E : XK} (hσ : σ[rv]? = some (some (V.ref row))) (hv : σ[v]? = some (some (V.ref p))) (hp : SqL K H p acc) (h0 : 0 < acc.length) (hm2 : acc.length < 900) (hsc : SqL K K0 sc (ns.map V.int)) (d : Dr K0 H row sc M) (q : ∀ H' r, 0 ≤ r → r < (acc.length : Int) → Dr K0 H' row sc M → Q (.int r) H') : tCall (sp_law_taken K) [] E (tCons (tVar rv) (tCons (tCB (fun xs H Q => ∃ p ys, xs = [V.ref p] ∧ (SqL K H p ys ∨ SqT K H p ys) ∧ Q (V.int ys.length) H) (tCons (tVar v) tNil)) tNil)) σ H Q :=
  ⟨_, hσ, _, hv, p, acc, rfl, .inl hp, taken (E := E) (by omega) (by omega) hsc d q⟩
theorem Dr.put1 {K' H : Hp} {row sc : Addr} {M : List (Addr × HO)} {e : Addr × HO} {p : Addr} {o o' : HO} (d : Dr K' H row sc (e :: (p, o) :: M)) : Dr K' (upd H p o') row sc (e :: (p, o') :: M) := by
  obtain ⟨i, g, x, hi, hg, sp⟩ := d
  exact ⟨i, g, x, hi, hg, sp.put2⟩
theorem erase_perm : ∀ {l : List V} {i : Nat} (h : i < l.length), (l[i] :: l.eraseIdx i).Perm l
  | a :: l, 0, _ => .refl _
  | a :: l, i + 1, h => (List.Perm.swap _ _ _).trans ((erase_perm (l := l) (i := i) (by simpa using h)).cons a)
def sp_law_mixed (K : PySem.W.Frag) : Sp := fun vs H Q _ => ∃ (row sc th : Addr) (ns : List Int) (xs : List V) (K0 : Hp) (M : List (Addr × HO)), vs = [.ref row, .ref th] ∧ SqL K K0 sc (ns.map V.int) ∧ SqL K K0 th xs ∧ xs.length ≤ 20 ∧ (∀ x ∈ xs, FlatOk x) ∧ Dr K0 H row sc M ∧
  ∀ K1 H' p ys, Same K0 K1 → Dr K1 H' row sc M → K1 p = some (.lst ys) → ys.Perm xs → Q (.ref p) H'

theorem Dr.grow {K' H H' : Hp} {row sc : Addr} {M : List (Addr × HO)} (d : Dr K' H row sc M) (g : Same H H') : Dr K' H' row sc M := by
  obtain ⟨i, gg, x, hi, hg, sp⟩ := d
  exact ⟨i, gg, x, hi, hg, sp.grow g⟩

section
variable {P : Program} {w : World} {K : PySem.W.Frag} {mg : Str → Option Value} {base : Heap}

abbrev N_law_taken : List Str := ["_law_row", "_law_many", "_law_found", "_law_cell"]
theorem sc_law_taken : FnScope N_law_taken ["_law_row", "_law_many"] (C8.fnScope s_law_taken) := C8.fnScope_by (by decide +kernel)
theorem ok_law_taken {fd : FuncData} (T : Txt K mg) (F : FunD K "_law_taken" "_law_taken" (C8.fnArgs s_law_taken) (C8.fnBody s_law_taken) (C8.fnScope s_law_taken) [] [] (He.ga K "_law_taken") fd) :
    C8.Cal P w K mg base 1 "_law_taken" (sp_law_taken K) [] := by
  refine C8.cal0 (ds := []) ⟨fun_c8 F, T.f__law_taken, F.kp⟩ (F.bindsN fun _ _ _ _ _ _ us hl => match us, hl with | [_, _], _ => rfl) .nil sc_law_taken (fun vs H Q E h => ?_) (fun cdv A outer s H vs Q E hr h => ?_)
  · obtain ⟨_, _, _, _, _, _, _, _, _, rfl, _⟩ := h
    rfl
  · have nd := sc_law_taken.nd
    have hu := hu_of hr
    obtain ⟨row, sc, m, ns, i, g, x, K0, M, rfl, hm, hm2, hi, hg, hsc, sp, q⟩ := h
    refine ⟨_, (pss_cons (ps_if (pt_cmpR op_gt (pe_ix ix_list (pv 0) pe_int (fun _ _ => rfl)) pe_int (nomark _)) (pss_cons (ps_set (i := 2) nd rfl (Or.inl rfl) (pe_op op_mod (pe_callTy call_int1 (by rfl) T.n_int (by decide +kernel) (pa_cons (pe_ix ix_list (pv 0) pe_int (fun _ _ => rfl)) pa_nil)) (pv 1)))
      (pss_cons (ps_asg (pe_op op_fdiv (pe_ix ix_list (pv 0) pe_int (fun _ _ => rfl)) (pv 1)) (pg_sub (pv 0) pe_int set_list))
      (pss_one (ps_ret (pv 2))))) pss_nil)
      (pss_cons (ps_asg (pe_op op_add (pe_ix ix_list (pv 0) pe_int (fun _ _ => rfl)) pe_int) (pg_sub (pv 0) pe_int set_list))
      (pss_cons (ps_if (pt_cmpR op_gt (pe_ix ix_list (pv 0) pe_int (fun _ _ => rfl)) (pe_callB call_len_seq (by rfl) T.n_len (by decide +kernel) (pa_cons (pe_ix ix_list (pv 0) pe_int (fun _ _ => rfl)) pa_nil)) (nomark _)) (pss_cons (ps_asg (pe_op op_mod (pe_callTy call_int1 (by rfl) T.n_int (by decide +kernel) (pa_cons (pe_op op_add (pe_op op_mul (pe_ix ix_list (pv 0) pe_int (fun _ _ => rfl)) pe_int) pe_int) pa_nil)) pe_int) (pg_sub (pv 0) pe_int set_list))
      (pss_one (ps_ret (pe_op op_mod (pe_callTy call_int1 (by rfl) T.n_int (by decide +kernel) (pa_cons (pe_op op_fdiv (pe_ix ix_list (pv 0) pe_int (fun _ _ => rfl)) pe_int) pa_nil)) (pv 1))))) pss_nil)
      (pss_cons (ps_set (i := 3) nd rfl (Or.inl rfl) (pe_ix ix_list (pe_ix ix_list (pv 0) pe_int (fun _ _ => rfl)) (pe_op op_sub (pe_ix ix_list (pv 0) pe_int (fun _ _ => rfl)) pe_int) (fun _ _ => rfl)))
      (pss_cons (ps_asg (pe_op op_mod (pe_callTy call_int1 (by rfl) T.n_int (by decide +kernel) (pa_cons (pe_op op_add (pe_op op_add (pe_op op_mul (pe_ix ix_list (pv 0) pe_int (fun _ _ => rfl)) pe_int) (pv 3)) pe_int) pa_nil)) pe_int) (pg_sub (pv 0) pe_int set_list))
      (pss_cons (ps_if (pt_cmpR op_ge (pv 3) (pe_op op_pow pe_int pe_int) (nomark _)) (pss_one (ps_asg (pe_op op_fdiv (pv 3) (pv 1)) (pg_sub (pv 0) pe_int set_list))) pss_nil)
      (pss_one (ps_ret (pe_op op_mod (pe_callTy call_int1 (by rfl) T.n_int (by decide +kernel) (pa_cons (pv 3) pa_nil)) (pv 1)))))))))), ?_⟩
    have hr0 := l_of (K := K) sp.c0
    have md : ∀ z : Int, 0 ≤ z % m ∧ z % m < m := fun z => ⟨Int.emod_nonneg z (by omega), Int.emod_lt_of_pos z hm⟩
    refine ⟨_, rfl, _, _, _, _, rfl, rfl, hr0, rfl, _, _, rfl, rfl, decide (0 < x), rfl, ?_⟩
    by_cases hx : 0 < x
    · rw [decide_eq_true hx]
      refine iteT ⟨_, rfl, _, _, _, _, rfl, rfl, hr0, rfl, .inl ⟨_, rfl, _, rfl, _, _, rfl, rfl, hm, ?_⟩⟩
      refine ⟨_, rfl, _, _, _, _, rfl, rfl, hr0, rfl, _, rfl, _, _, rfl, rfl, ⟨hm, by omega⟩, ?_⟩
      refine ⟨_, rfl, _, _, _, 3, rfl, rfl, sp.c0, rfl, ?_⟩
      have sp1 := sp.put0 (o' := rowO sc i g (x / m))
      exact ⟨_, rfl, q _ _ _ _ _ hi hg (md _).1 (md _).2 sp1⟩
    rw [decide_eq_false hx]
    refine iteF ?_
    refine ⟨_, rfl, _, _, _, _, rfl, rfl, hr0, rfl, _, _, rfl, rfl, ?_⟩
    refine ⟨_, rfl, _, _, _, 1, rfl, rfl, sp.c0, rfl, ?_⟩
    have sp1 := sp.put0 (o' := rowO sc (i + 1) g x)
    have hr1 := l_of (K := K) sp1.c0
    have hsc1 := Same.lst sp1.ext hsc
    refine ⟨_, rfl, _, _, _, _, rfl, rfl, hr1, rfl, _, rfl, _, _, _, _, rfl, rfl, hr1, rfl, _, _, rfl, .inl hsc1, _, _, rfl, rfl, decide (((ns.map V.int).length : Int) < i + 1), rfl, ?_⟩
    have rest : ∀ (z : Int), 0 ≤ z % m ∧ z % m < m := md
    by_cases hlen : ((ns.map V.int).length : Int) < i + 1
    · rw [decide_eq_true hlen]
      refine iteT ⟨_, rfl, _, _, _, _, rfl, rfl, hr1, rfl, _, _, rfl, rfl, (by unfold CMul; omega), _, _, rfl, rfl, .inl ⟨_, rfl, _, _, rfl, rfl, (by show (0 : Int) < 2147483647; decide), ?_⟩⟩
      refine ⟨_, rfl, _, _, _, 2, rfl, rfl, sp1.c0, rfl, ?_⟩
      have sp2 := sp1.put0 (o' := rowO sc (i + 1) ((g * 48271 + 11) % 2147483647) x)
      have hr2 := l_of (K := K) sp2.c0
      refine ⟨_, rfl, _, _, _, _, rfl, rfl, hr2, rfl, _, _, rfl, rfl, ⟨by decide, by decide⟩, .inl ⟨_, rfl, _, rfl, _, _, rfl, rfl, hm, ?_⟩⟩
      exact q _ _ _ _ _ (by omega) ⟨Int.emod_nonneg _ (by decide), Int.emod_lt_of_pos _ (by decide)⟩ (md _).1 (md _).2 sp2
    rw [decide_eq_false hlen]
    refine iteF ?_
    have hin : i.toNat < (ns.map V.int).length := by omega
    have hget : (ns.map V.int)[i.toNat]? = some (.int (ns[i.toNat]'(by simpa using hin))) := by simp
    have hat : atI (ns.map V.int) (i + 1 - 1) = some (.int (ns[i.toNat]'(by simpa using hin))) := by
      rw [show i + 1 - 1 = ((i.toNat : Nat) : Int) by omega]
      exact atIn hget
    generalize ns[i.toNat]'(by simpa using hin) = y at hget hat
    refine ⟨_, rfl, _, _, _, _, rfl, rfl, hr1, rfl, _, rfl, _, _, _, _, rfl, rfl, hr1, rfl, _, _, rfl, rfl, _, _, _, _, rfl, rfl, hsc1, hat, ?_⟩
    refine ⟨_, rfl, _, _, _, _, rfl, rfl, hr1, rfl, _, _, rfl, rfl, (by unfold CMul; omega), _, rfl, _, _, rfl, rfl, _, _, rfl, rfl, .inl ⟨_, rfl, _, _, rfl, rfl, (by show (0 : Int) < 2147483647; decide), ?_⟩⟩
    refine ⟨_, rfl, _, _, _, 2, rfl, rfl, sp1.c0, rfl, ?_⟩
    have sp2 := sp1.put0 (o' := rowO sc (i + 1) ((g * 48271 + y + 11) % 2147483647) x)
    have hg2 : 0 ≤ (g * 48271 + y + 11) % 2147483647 ∧ (g * 48271 + y + 11) % 2147483647 < 2147483647 := ⟨Int.emod_nonneg _ (by decide), Int.emod_lt_of_pos _ (by decide)⟩
    refine ⟨_, rfl, _, _, rfl, rfl, ⟨by decide, by decide, by decide⟩, _, _, rfl, rfl, decide (10 ^ 18 ≤ y), rfl, ?_⟩
    by_cases hy : 10 ^ 18 ≤ y
    · rw [decide_eq_true hy]
      refine iteT ⟨_, rfl, _, rfl, _, _, rfl, rfl, ⟨hm, by omega⟩, ?_⟩
      refine ⟨_, rfl, _, _, _, 3, rfl, rfl, sp2.c0, rfl, ?_⟩
      have sp3 := sp2.put0 (o' := rowO sc (i + 1) ((g * 48271 + y + 11) % 2147483647) (y / m))
      exact ⟨_, rfl, .inl ⟨_, rfl, _, rfl, _, _, rfl, rfl, hm, q _ _ _ _ _ (by omega) hg2 (md _).1 (md _).2 sp3⟩⟩
    · rw [decide_eq_false hy]
      exact iteF ⟨_, rfl, .inl ⟨_, rfl, _, rfl, _, _, rfl, rfl, hm, q _ _ _ _ _ (by omega) hg2 (md _).1 (md _).2 sp2⟩⟩
abbrev N_law_mixed : List Str := ["_law_row", "_law_things", "_law_left", "_law_found"]
theorem sc_law_mixed : FnScope N_law_mixed ["_law_row", "_law_things"] (C8.fnScope s_law_mixed) := C8.fnScope_by (by decide +kernel)
theorem ok_law_mixed {fd : FuncData} (T : Txt K mg) (F : FunD K "_law_mixed" "_law_mixed" (C8.fnArgs s_law_mixed) (C8.fnBody s_law_mixed) (C8.fnScope s_law_mixed) [] [] (He.ga K "_law_mixed") fd) (c__law_taken : C8.Cal P w K mg base 1 "_law_taken" (sp_law_taken K) []) :
    C8.Cal P w K mg base 2 "_law_mixed" (sp_law_mixed K) [] := by
  refine C8.cal0 (ds := []) ⟨fun_c8 F, T.f__law_mixed, F.kp⟩ (F.bindsN fun _ _ _ _ _ _ us hl => match us, hl with | [_, _], _ => rfl) .nil sc_law_mixed (fun vs H Q E h => ?_) (fun cdv A outer s H vs Q E hr h => ?_)
  · obtain ⟨_, _, _, _, _, _, _, rfl, _⟩ := h
    rfl
  · have nd := sc_law_mixed.nd
    have hu := hu_of hr
    obtain ⟨row, sc, th, ns, xs, K0, M, rfl, hsc, hth, hxl, hfl, d, q⟩ := h
    refine ⟨_, (pss_cons (ps_par (i := 2) (j := 3) rfl nd rfl rfl (by decide) rfl rfl (pa_cons (pe_callTy call_list_of (by rfl) T.n_list (by decide +kernel) (pa_cons (pv 1) pa_nil)) (pa_cons (pe_lst pa_nil) pa_nil)) rfl)
      (pss_cons (ps_while PassesOwn.never (pt_cmpR (op_neD (hu64_of hr)) (pv 2) (pe_lst pa_nil) (nomark _)) (pss_one (ps_expr (pe_bm PySem.F.plainAttrs_list PySem.F.slot_list_append PySem.F.type_list_append mt_append (pv 3) (pa_cons (pe_bm PySem.F.plainAttrs_list PySem.F.slot_list_pop PySem.F.type_list_pop mt_popAt (pv 2) (pa_cons (C8.pe_c c__law_taken hr (by decide) rfl (pa_cons (pv 0) (pa_cons (pe_callB call_len_seq (by rfl) T.n_len (by decide +kernel) (pa_cons (pv 2) pa_nil)) pa_nil))) pa_nil)) pa_nil)))))
      (pss_one (ps_ret (pv 3))))), ?_⟩
    refine ⟨_, rfl, _, _, rfl, .inl (Same.lst d.ext hth), fun lf hlf => ⟨Nat.zero_le _, fun fd2 hfd => ⟨_, _, rfl, ?_⟩⟩⟩
    have d1 := (d.own (o := .lst xs) hlf).own (o := .lst []) hfd
    refine ⟨fun m σ H' => ∃ l f, m = l.length ∧ σ = [some (.ref row), some (.ref th), some (.ref lf), some (.ref fd2)] ∧ (f ++ l).Perm xs ∧ Dr K0 H' row sc ((fd2, .lst f) :: (lf, .lst l) :: M), ⟨_, xs, [], rfl, rfl, by simp, d1⟩, ?_⟩
    rintro m σ H1 ⟨l, f, rfl, rfl, hp, d2⟩
    have hll : f.length + l.length ≤ 20 := by
      have := hp.length_eq
      simp at this
      omega
    have hfl2 : ∀ x ∈ l, FlatOk x := fun x m => hfl x (hp.mem_iff.mp (List.mem_append_right _ m))
    refine ⟨_, rfl, Nat.zero_le _, fun q2 hq2 => ?_⟩
    have d3 := d2.drop (o := .lst []) hq2
    refine ⟨.list (l.map toD), .list [], .lst (l_of d3.at1) (flat_dp hfl2), .lst (l_of upd_same) .nil, flat_sh hfl2, flat_sh (l := []) (fun _ m => by cases m), !l.isEmpty, by rw [flat_nil], ?_⟩
    cases hle : l with
    | nil =>
      subst hle
      refine iteF ?_
      have hfz := d3.freeze
      exact ⟨_, rfl, q _ _ fd2 f hfz.2 hfz.1.tail upd_same (by simpa using hp)⟩
    | cons y0 l0 =>
      rw [← hle]
      have hpos : 0 < l.length := by rw [hle]; simp
      have hie : (!l.isEmpty) = true := by rw [hle]; rfl
      rw [hie]
      refine iteT ⟨fun σ' H' => ∃ l' f', l'.length < l.length ∧ σ' = [some (.ref row), some (.ref th), some (.ref lf), some (.ref fd2)] ∧ (f' ++ l').Perm xs ∧ Dr K0 H' row sc ((fd2, .lst f') :: (lf, .lst l') :: M), ?_, ?_⟩
      · rintro σ' H' ⟨l', f', e1, e2, e3, e4⟩
        exact ⟨_, e1, l', f', rfl, e2, e3, e4⟩
      · refine ⟨_, rfl, .inl ⟨rfl, _, .inl (.inl d3.at0)⟩, _, rfl, .inl ⟨rfl, _, .inl (.inl d3.at1)⟩, takenLv rfl rfl (l_of d3.at1) hpos (by omega) hsc d3 fun H4 r a1 a2 d4 => ?_⟩
        have hr : r.toNat < l.length := by omega
        have hseq : seqIndex? r l.length = some r.toNat := by
          unfold seqIndex?
          have h1 : ¬ r < 0 := by omega
          simp [h1, a1, a2]
        refine ⟨_, _, _, r.toNat, _, rfl, rfl, d4.at1, by omega, by omega, hseq, List.getElem?_eq_getElem hr, ?_⟩
        have d5 := d4.put1 (o' := .lst (l.eraseIdx r.toNat))
        refine ⟨_, _, _, rfl, rfl, d5.at0, sml (m := 40) (by omega) (by decide), ?_⟩
        have d6 := d5.put (o' := .lst (f ++ [l[r.toNat]]))
        refine ⟨l.eraseIdx r.toNat, f ++ [l[r.toNat]], by rw [List.length_eraseIdx_of_lt hr]; omega, rfl, ?_, d6⟩
        refine List.Perm.trans ?_ hp
        rw [List.append_assoc]
        exact (erase_perm hr).append_left f
end
end Cb

namespace Cb
open PySem PySem.Spec PyProof.Rows L2

def DrawnOk (nms lvs wks : List Str) : SD → Prop
  | .run n => 1 ≤ n ∧ n ≤ 3
  | .ring l => l ∈ nms
  | .quiet l => l ∈ lvs
  | .mask l => l ∈ nms
  | .unmask l => l ∈ nms
  | .setf f => f ≤ 1
  | .clearf f => f ≤ 1
  | .await f => f ≤ 1
  | .bar b => 0 ≤ b ∧ b ≤ 9
  | .later w => w ∈ wks
theorem strs_flat {l : List Str} (h : ∀ x ∈ l, nameOk x) : ∀ x ∈ l.map V.str, FlatOk x := fun x m => by
  obtain ⟨s, hs, rfl⟩ := List.mem_map.mp m
  exact .inr ⟨s, rfl, h s hs⟩
theorem str_at {l : List Str} {r : Int} (h0 : 0 ≤ r) (h1 : r < (l.length : Int)) : ∃ s ∈ l, atI (l.map V.str) r = some (.str s) := by
  have hk : r.toNat < l.length := by omega
  refine ⟨l[r.toNat], List.getElem_mem hk, ?_⟩
  have z := atIn (l := l.map V.str) (n := r.toNat) (v := .str l[r.toNat]) (by rw [List.getElem?_map, List.getElem?_eq_getElem hk]; rfl)
  rwa [show ((r.toNat : Nat) : Int) = r by omega] at z
def sp_law_step (K : PySem.W.Frag) : Sp := fun vs H Q _ => ∃ (row sc nm lv wk : Addr) (ns : List Int) (nms lvs wks : List Str) (K0 : Hp) (M : List (Addr × HO)), vs = [.ref row, .ref nm, .ref lv, .ref wk] ∧ SqL K K0 sc (ns.map V.int) ∧ SqL K K0 nm (nms.map V.str) ∧ SqL K K0 lv (lvs.map V.str) ∧ SqL K K0 wk (wks.map V.str) ∧
  (0 < nms.length ∧ nms.length ≤ 20 ∧ lvs.length ≤ 20 ∧ wks.length ≤ 20) ∧ (∀ x ∈ lvs, nameOk x) ∧ (∀ x ∈ wks, nameOk x) ∧ Dr K0 H row sc M ∧
  ∀ K1 H' v st, Same K0 K1 → Dr K1 H' row sc M → StepAt K K1 v st → DrawnOk nms lvs wks st → Q v H'

section
variable {P : Program} {w : World} {K : PySem.W.Frag} {mg : Str → Option Value} {base : Heap}

abbrev N_law_step : List Str := ["_law_row", "_law_names", "_law_levels", "_law_works", "_law_word"]
theorem sc_law_step : FnScope N_law_step ["_law_row", "_law_names", "_law_levels", "_law_works"] (C8.fnScope s_law_step) := C8.fnScope_by (by decide +kernel)
theorem ok_law_step {fd : FuncData} (T : Txt K mg) (F : FunD K "_law_step" "_law_step" (C8.fnArgs s_law_step) (C8.fnBody s_law_step) (C8.fnScope s_law_step) [] [] (He.ga K "_law_step") fd) (c__law_taken : C8.Cal P w K mg base 1 "_law_taken" (sp_law_taken K) []) :
    C8.Cal P w K mg base 2 "_law_step" (sp_law_step K) [] := by
  refine C8.cal0 (ds := []) ⟨fun_c8 F, T.f__law_step, F.kp⟩ (F.bindsN fun _ _ _ _ _ _ us hl => match us, hl with | [_, _, _, _], _ => rfl) .nil sc_law_step (fun vs H Q E h => ?_) (fun cdv A outer s H vs Q E hr h => ?_)
  · obtain ⟨_, _, _, _, _, _, _, _, _, _, _, rfl, _⟩ := h
    rfl
  · have nd := sc_law_step.nd
    have hu := hu_of hr
    obtain ⟨row, sc, nm, lv, wk, ns, nms, lvs, wks, K0, M, rfl, hsc, hnm, hlv, hwk, ⟨hn0, hn20, hl20, hw20⟩, hlo, hwo, d, q⟩ := h
    refine ⟨_, (pss_cons (ps_set (i := 4) nd rfl (Or.inl rfl) (pe_lst (pa_cons pe_str (pa_cons pe_str (pa_cons pe_str (pa_cons pe_str (pa_cons pe_str (pa_cons pe_str (pa_cons pe_str (pa_cons pe_str (pa_cons pe_str (pa_cons pe_str (pa_cons pe_str (pa_cons pe_str pa_nil))))))))))))))
      (pss_cons (ps_set (i := 4) nd rfl (Or.inl rfl) (pe_ix ix_list (pv 4) (C8.pe_c c__law_taken hr (by decide) rfl (pa_cons (pv 0) (pa_cons pe_int pa_nil))) (fun _ _ => rfl)))
      (pss_cons (ps_if (PW.pt (pw_and (pt_cmpR op_eq (pv 4) pe_str (nomark _)) (pw_and1 (pt_cmpR (op_neD (hu64_of hr)) (pv 3) (pe_lst pa_nil) (nomark _))))) (pss_one (ps_ret (pe_tup (pa_cons (pv 4) (pa_cons (pe_ix ix_list (pv 3) (C8.pe_c c__law_taken hr (by decide) rfl (pa_cons (pv 0) (pa_cons (pe_callB call_len_seq (by rfl) T.n_len (by decide +kernel) (pa_cons (pv 3) pa_nil)) pa_nil))) (fun _ _ => rfl)) pa_nil))))) pss_nil)
      (pss_cons (ps_if (PW.pt (pw_and (pt_cmpR op_eq (pv 4) pe_str (nomark _)) (pw_and1 (pt_cmpR (op_neD (hu64_of hr)) (pv 2) (pe_lst pa_nil) (nomark _))))) (pss_one (ps_ret (pe_tup (pa_cons (pv 4) (pa_cons (pe_ix ix_list (pv 2) (C8.pe_c c__law_taken hr (by decide) rfl (pa_cons (pv 0) (pa_cons (pe_callB call_len_seq (by rfl) T.n_len (by decide +kernel) (pa_cons (pv 2) pa_nil)) pa_nil))) (fun _ _ => rfl)) pa_nil))))) pss_nil)
      (pss_cons (ps_if (pt_cmpR op_in_seq (pv 4) (pe_tup (pa_cons pe_str (pa_cons pe_str (pa_cons pe_str pa_nil)))) (by rfl)) (pss_one (ps_ret (pe_tup (pa_cons (pv 4) (pa_cons (pe_ix ix_list (pv 1) (C8.pe_c c__law_taken hr (by decide) rfl (pa_cons (pv 0) (pa_cons (pe_callB call_len_seq (by rfl) T.n_len (by decide +kernel) (pa_cons (pv 1) pa_nil)) pa_nil))) (fun _ _ => rfl)) pa_nil))))) pss_nil)
      (pss_cons (ps_if (pt_cmpR op_in_seq (pv 4) (pe_tup (pa_cons pe_str (pa_cons pe_str (pa_cons pe_str pa_nil)))) (by rfl)) (pss_one (ps_ret (pe_tup (pa_cons (pv 4) (pa_cons (C8.pe_c c__law_taken hr (by decide) rfl (pa_cons (pv 0) (pa_cons pe_int pa_nil))) pa_nil))))) pss_nil)
      (pss_one (ps_ret (pe_ifExp (pt_cmpR op_eq (pv 4) pe_str (nomark _)) (pe_tup (pa_cons pe_str (pa_cons (C8.pe_c c__law_taken hr (by decide) rfl (pa_cons (pv 0) (pa_cons pe_int pa_nil))) pa_nil))) (pe_tup (pa_cons pe_str (pa_cons (pe_op op_add pe_int (C8.pe_c c__law_taken hr (by decide) rfl (pa_cons (pv 0) (pa_cons pe_int pa_nil)))) pa_nil)))))))))))), ?_⟩
    refine ⟨Nat.le_of_lt (sml (m := 20) (by simp) (by decide)), fun wp hwp => ?_⟩
    have d1 := d.own (o := .lst [.str "run", .str "run", .str "run", .str "ring", .str "mask", .str "unmask", .str "set", .str "clear", .str "await", .str "bar", .str "later", .str "quiet"]) hwp
    refine ⟨_, rfl, ?_⟩
    refine takenV (v := 0) rfl (by decide) (by decide) hsc d1 fun H1 r r0 r1 d2 => ?_
    have hk : r = 0 ∨ r = 1 ∨ r = 2 ∨ r = 3 ∨ r = 4 ∨ r = 5 ∨ r = 6 ∨ r = 7 ∨ r = 8 ∨ r = 9 ∨ r = 10 ∨ r = 11 := by omega
    rcases hk with rfl | rfl | rfl | rfl | rfl | rfl | rfl | rfl | rfl | rfl | rfl | rfl
    · refine ⟨_, _, _, _, rfl, rfl, l_of d2.at0, rfl, ?_⟩
      have d3 := d2.tail
      refine ⟨_, rfl, rfl, false, rfl, iteF (iteF ?_)⟩
      refine ⟨_, rfl, rfl, false, rfl, iteF (iteF ?_)⟩
      refine ⟨_, rfl, small8 (by simp), fun tm1 htm1 => ?_⟩
      have m1 := d3.drop (o := .tup [.str "ring", .str "mask", .str "unmask"]) htm1
      refine ⟨_, _, rfl, .inr (t_of upd_same), rfl, rfl, false, rfl, iteF ?_⟩
      refine ⟨_, rfl, small8 (by simp), fun tm2 htm2 => ?_⟩
      have m2 := m1.drop (o := .tup [.str "set", .str "clear", .str "await"]) htm2
      refine ⟨_, _, rfl, .inr (t_of upd_same), rfl, rfl, false, rfl, iteF ?_⟩
      refine ⟨_, rfl, rfl, false, rfl, iteF ?_⟩
      refine takenV (v := 0) rfl (by decide) (by decide) hsc m2 fun H2 rr k0 k1 e1 => ⟨_, _, rfl, rfl, small8 (by simp), fun t ht => ?_⟩
      exact q _ _ _ (.run (1 + rr)) (e1.keep ht).2 (e1.keep ht).1 ⟨t, rfl, t_of upd_same⟩ ⟨by omega, by omega⟩
    · refine ⟨_, _, _, _, rfl, rfl, l_of d2.at0, rfl, ?_⟩
      have d3 := d2.tail
      refine ⟨_, rfl, rfl, false, rfl, iteF (iteF ?_)⟩
      refine ⟨_, rfl, rfl, false, rfl, iteF (iteF ?_)⟩
      refine ⟨_, rfl, small8 (by simp), fun tm1 htm1 => ?_⟩
      have m1 := d3.drop (o := .tup [.str "ring", .str "mask", .str "unmask"]) htm1
      refine ⟨_, _, rfl, .inr (t_of upd_same), rfl, rfl, false, rfl, iteF ?_⟩
      refine ⟨_, rfl, small8 (by simp), fun tm2 htm2 => ?_⟩
      have m2 := m1.drop (o := .tup [.str "set", .str "clear", .str "await"]) htm2
      refine ⟨_, _, rfl, .inr (t_of upd_same), rfl, rfl, false, rfl, iteF ?_⟩
      refine ⟨_, rfl, rfl, false, rfl, iteF ?_⟩
      refine takenV (v := 0) rfl (by decide) (by decide) hsc m2 fun H2 rr k0 k1 e1 => ⟨_, _, rfl, rfl, small8 (by simp), fun t ht => ?_⟩
      exact q _ _ _ (.run (1 + rr)) (e1.keep ht).2 (e1.keep ht).1 ⟨t, rfl, t_of upd_same⟩ ⟨by omega, by omega⟩
    · refine ⟨_, _, _, _, rfl, rfl, l_of d2.at0, rfl, ?_⟩
      have d3 := d2.tail
      refine ⟨_, rfl, rfl, false, rfl, iteF (iteF ?_)⟩
      refine ⟨_, rfl, rfl, false, rfl, iteF (iteF ?_)⟩
      refine ⟨_, rfl, small8 (by simp), fun tm1 htm1 => ?_⟩
      have m1 := d3.drop (o := .tup [.str "ring", .str "mask", .str "unmask"]) htm1
      refine ⟨_, _, rfl, .inr (t_of upd_same), rfl, rfl, false, rfl, iteF ?_⟩
      refine ⟨_, rfl, small8 (by simp), fun tm2 htm2 => ?_⟩
      have m2 := m1.drop (o := .tup [.str "set", .str "clear", .str "await"]) htm2
      refine ⟨_, _, rfl, .inr (t_of upd_same), rfl, rfl, false, rfl, iteF ?_⟩
      refine ⟨_, rfl, rfl, false, rfl, iteF ?_⟩
      refine takenV (v := 0) rfl (by decide) (by decide) hsc m2 fun H2 rr k0 k1 e1 => ⟨_, _, rfl, rfl, small8 (by simp), fun t ht => ?_⟩
      exact q _ _ _ (.run (1 + rr)) (e1.keep ht).2 (e1.keep ht).1 ⟨t, rfl, t_of upd_same⟩ ⟨by omega, by omega⟩
    · refine ⟨_, _, _, _, rfl, rfl, l_of d2.at0, rfl, ?_⟩
      have d3 := d2.tail
      refine ⟨_, rfl, rfl, false, rfl, iteF (iteF ?_)⟩
      refine ⟨_, rfl, rfl, false, rfl, iteF (iteF ?_)⟩
      refine ⟨_, rfl, small8 (by simp), fun tm1 htm1 => ?_⟩
      have m1 := d3.drop (o := .tup [.str "ring", .str "mask", .str "unmask"]) htm1
      refine ⟨_, _, rfl, .inr (t_of upd_same), rfl, rfl, true, rfl, iteT ?_⟩
      refine ⟨_, rfl, _, rfl, ?_⟩
      refine takenQ (v := 0) (((nms.map V.str).length : Nat) : Int) rfl (fun Q' h => ⟨_, rfl, _, _, rfl, .inl (Same.lst m1.ext hnm), h⟩) (by rw [List.length_map]; omega) (by rw [List.length_map]; omega) hsc m1 fun H2 rr k0 k1 e1 => ?_
      obtain ⟨s, hs, hat⟩ := str_at (l := nms) k0 (by rw [List.length_map] at k1; exact k1)
      refine ⟨_, _, _, _, rfl, rfl, Same.lst e1.ext hnm, hat, small8 (by simp), fun t ht => ?_⟩
      exact q _ _ _ (.ring s) (e1.keep ht).2 (e1.keep ht).1 ⟨t, rfl, t_of upd_same⟩ hs
    · refine ⟨_, _, _, _, rfl, rfl, l_of d2.at0, rfl, ?_⟩
      have d3 := d2.tail
      refine ⟨_, rfl, rfl, false, rfl, iteF (iteF ?_)⟩
      refine ⟨_, rfl, rfl, false, rfl, iteF (iteF ?_)⟩
      refine ⟨_, rfl, small8 (by simp), fun tm1 htm1 => ?_⟩
      have m1 := d3.drop (o := .tup [.str "ring", .str "mask", .str "unmask"]) htm1
      refine ⟨_, _, rfl, .inr (t_of upd_same), rfl, rfl, true, rfl, iteT ?_⟩
      refine ⟨_, rfl, _, rfl, ?_⟩
      refine takenQ (v := 0) (((nms.map V.str).length : Nat) : Int) rfl (fun Q' h => ⟨_, rfl, _, _, rfl, .inl (Same.lst m1.ext hnm), h⟩) (by rw [List.length_map]; omega) (by rw [List.length_map]; omega) hsc m1 fun H2 rr k0 k1 e1 => ?_
      obtain ⟨s, hs, hat⟩ := str_at (l := nms) k0 (by rw [List.length_map] at k1; exact k1)
      refine ⟨_, _, _, _, rfl, rfl, Same.lst e1.ext hnm, hat, small8 (by simp), fun t ht => ?_⟩
      exact q _ _ _ (.mask s) (e1.keep ht).2 (e1.keep ht).1 ⟨t, rfl, t_of upd_same⟩ hs
    · refine ⟨_, _, _, _, rfl, rfl, l_of d2.at0, rfl, ?_⟩
      have d3 := d2.tail
      refine ⟨_, rfl, rfl, false, rfl, iteF (iteF ?_)⟩
      refine ⟨_, rfl, rfl, false, rfl, iteF (iteF ?_)⟩
      refine ⟨_, rfl, small8 (by simp), fun tm1 htm1 => ?_⟩
      have m1 := d3.drop (o := .tup [.str "ring", .str "mask", .str "unmask"]) htm1
      refine ⟨_, _, rfl, .inr (t_of upd_same), rfl, rfl, true, rfl, iteT ?_⟩
      refine ⟨_, rfl, _, rfl, ?_⟩
      refine takenQ (v := 0) (((nms.map V.str).length : Nat) : Int) rfl (fun Q' h => ⟨_, rfl, _, _, rfl, .inl (Same.lst m1.ext hnm), h⟩) (by rw [List.length_map]; omega) (by rw [List.length_map]; omega) hsc m1 fun H2 rr k0 k1 e1 => ?_
      obtain ⟨s, hs, hat⟩ := str_at (l := nms) k0 (by rw [List.length_map] at k1; exact k1)
      refine ⟨_, _, _, _, rfl, rfl, Same.lst e1.ext hnm, hat, small8 (by simp), fun t ht => ?_⟩
      exact q _ _ _ (.unmask s) (e1.keep ht).2 (e1.keep ht).1 ⟨t, rfl, t_of upd_same⟩ hs
    · refine ⟨_, _, _, _, rfl, rfl, l_of d2.at0, rfl, ?_⟩
      have d3 := d2.tail
      refine ⟨_, rfl, rfl, false, rfl, iteF (iteF ?_)⟩
      refine ⟨_, rfl, rfl, false, rfl, iteF (iteF ?_)⟩
      refine ⟨_, rfl, small8 (by simp), fun tm1 htm1 => ?_⟩
      have m1 := d3.drop (o := .tup [.str "ring", .str "mask", .str "unmask"]) htm1
      refine ⟨_, _, rfl, .inr (t_of upd_same), rfl, rfl, false, rfl, iteF ?_⟩
      refine ⟨_, rfl, small8 (by simp), fun tm2 htm2 => ?_⟩
      have m2 := m1.drop (o := .tup [.str "set", .str "clear", .str "await"]) htm2
      refine ⟨_, _, rfl, .inr (t_of upd_same), rfl, rfl, true, rfl, iteT ?_⟩
      refine ⟨_, rfl, ?_⟩
      refine takenV (v := 0) rfl (by decide) (by decide) hsc m2 fun H2 rr k0 k1 e1 => ⟨small8 (by simp), fun t ht => ?_⟩
      obtain ⟨f, rfl⟩ : ∃ f : Nat, rr = (f : Nat) := ⟨rr.toNat, by omega⟩
      exact q _ _ _ (.setf f) (e1.keep ht).2 (e1.keep ht).1 ⟨t, rfl, t_of upd_same⟩ (by show f ≤ 1; omega)
    · refine ⟨_, _, _, _, rfl, rfl, l_of d2.at0, rfl, ?_⟩
      have d3 := d2.tail
      refine ⟨_, rfl, rfl, false, rfl, iteF (iteF ?_)⟩
      refine ⟨_, rfl, rfl, false, rfl, iteF (iteF ?_)⟩
      refine ⟨_, rfl, small8 (by simp), fun tm1 htm1 => ?_⟩
      have m1 := d3.drop (o := .tup [.str "ring", .str "mask", .str "unmask"]) htm1
      refine ⟨_, _, rfl, .inr (t_of upd_same), rfl, rfl, false, rfl, iteF ?_⟩
      refine ⟨_, rfl, small8 (by simp), fun tm2 htm2 => ?_⟩
      have m2 := m1.drop (o := .tup [.str "set", .str "clear", .str "await"]) htm2
      refine ⟨_, _, rfl, .inr (t_of upd_same), rfl, rfl, true, rfl, iteT ?_⟩
      refine ⟨_, rfl, ?_⟩
      refine takenV (v := 0) rfl (by decide) (by decide) hsc m2 fun H2 rr k0 k1 e1 => ⟨small8 (by simp), fun t ht => ?_⟩
      obtain ⟨f, rfl⟩ : ∃ f : Nat, rr = (f : Nat) := ⟨rr.toNat, by omega⟩
      exact q _ _ _ (.clearf f) (e1.keep ht).2 (e1.keep ht).1 ⟨t, rfl, t_of upd_same⟩ (by show f ≤ 1; omega)
    · refine ⟨_, _, _, _, rfl, rfl, l_of d2.at0, rfl, ?_⟩
      have d3 := d2.tail
      refine ⟨_, rfl, rfl, false, rfl, iteF (iteF ?_)⟩
      refine ⟨_, rfl, rfl, false, rfl, iteF (iteF ?_)⟩
      refine ⟨_, rfl, small8 (by simp), fun tm1 htm1 => ?_⟩
      have m1 := d3.drop (o := .tup [.str "ring", .str "mask", .str "unmask"]) htm1
      refine ⟨_, _, rfl, .inr (t_of upd_same), rfl, rfl, false, rfl, iteF ?_⟩
      refine ⟨_, rfl, small8 (by simp), fun tm2 htm2 => ?_⟩
      have m2 := m1.drop (o := .tup [.str "set", .str "clear", .str "await"]) htm2
      refine ⟨_, _, rfl, .inr (t_of upd_same), rfl, rfl, true, rfl, iteT ?_⟩
      refine ⟨_, rfl, ?_⟩
      refine takenV (v := 0) rfl (by decide) (by decide) hsc m2 fun H2 rr k0 k1 e1 => ⟨small8 (by simp), fun t ht => ?_⟩
      obtain ⟨f, rfl⟩ : ∃ f : Nat, rr = (f : Nat) := ⟨rr.toNat, by omega⟩
      exact q _ _ _ (.await f) (e1.keep ht).2 (e1.keep ht).1 ⟨t, rfl, t_of upd_same⟩ (by show f ≤ 1; omega)
    · refine ⟨_, _, _, _, rfl, rfl, l_of d2.at0, rfl, ?_⟩
      have d3 := d2.tail
      refine ⟨_, rfl, rfl, false, rfl, iteF (iteF ?_)⟩
      refine ⟨_, rfl, rfl, false, rfl, iteF (iteF ?_)⟩
      refine ⟨_, rfl, small8 (by simp), fun tm1 htm1 => ?_⟩
      have m1 := d3.drop (o := .tup [.str "ring", .str "mask", .str "unmask"]) htm1
      refine ⟨_, _, rfl, .inr (t_of upd_same), rfl, rfl, false, rfl, iteF ?_⟩
      refine ⟨_, rfl, small8 (by simp), fun tm2 htm2 => ?_⟩
      have m2 := m1.drop (o := .tup [.str "set", .str "clear", .str "await"]) htm2
      refine ⟨_, _, rfl, .inr (t_of upd_same), rfl, rfl, false, rfl, iteF ?_⟩
      refine ⟨_, rfl, rfl, true, rfl, iteT ?_⟩
      refine takenV (v := 0) rfl (by decide) (by decide) hsc m2 fun H2 rr k0 k1 e1 => ⟨small8 (by simp), fun t ht => ?_⟩
      exact q _ _ _ (.bar rr) (e1.keep ht).2 (e1.keep ht).1 ⟨t, rfl, t_of upd_same⟩ ⟨k0, by omega⟩
    · refine ⟨_, _, _, _, rfl, rfl, l_of d2.at0, rfl, ?_⟩
      have d3 := d2.tail
      refine ⟨_, rfl, rfl, true, rfl, iteT ?_⟩
      refine ⟨_, rfl, Nat.zero_le _, fun q2 hq2 => ?_⟩
      have n1 := d3.drop (o := .lst []) hq2
      refine ⟨.list ((wks.map V.str).map toD), .list [], .lst (Same.lst n1.ext hwk) (flat_dp (strs_flat hwo)), .lst (l_of upd_same) .nil, flat_sh (strs_flat hwo), flat_sh (l := []) (fun _ m => by cases m), !(wks.map V.str).isEmpty, by rw [flat_nil], ?_⟩
      cases hle : wks with
      | nil =>
        refine iteF ?_
        refine ⟨_, rfl, rfl, false, rfl, iteF (iteF ?_)⟩
        refine ⟨_, rfl, small8 (by simp), fun tm1 htm1 => ?_⟩
        have m1 := n1.drop (o := .tup [.str "ring", .str "mask", .str "unmask"]) htm1
        refine ⟨_, _, rfl, .inr (t_of upd_same), rfl, rfl, false, rfl, iteF ?_⟩
        refine ⟨_, rfl, small8 (by simp), fun tm2 htm2 => ?_⟩
        have m2 := m1.drop (o := .tup [.str "set", .str "clear", .str "await"]) htm2
        refine ⟨_, _, rfl, .inr (t_of upd_same), rfl, rfl, false, rfl, iteF ?_⟩
        refine ⟨_, rfl, rfl, false, rfl, iteF ?_⟩
        refine takenV (v := 0) rfl (by decide) (by decide) hsc m2 fun H2 rr k0 k1 e1 => ⟨_, _, rfl, rfl, small8 (by simp), fun t ht => ?_⟩
        exact q _ _ _ (.run (1 + rr)) (e1.keep ht).2 (e1.keep ht).1 ⟨t, rfl, t_of upd_same⟩ ⟨by omega, by omega⟩
      | cons y0 l0 =>
        have hpos : 0 < wks.length := by rw [hle]; simp
        refine iteT ?_
        refine ⟨_, rfl, _, rfl, ?_⟩
        refine takenQ (v := 0) (((wks.map V.str).length : Nat) : Int) rfl (fun Q' h => ⟨_, rfl, _, _, rfl, .inl (Same.lst n1.ext hwk), h⟩) (by rw [List.length_map]; omega) (by rw [List.length_map]; omega) hsc n1 fun H2 rr k0 k1 e1 => ?_
        obtain ⟨s, hs, hat⟩ := str_at (l := wks) k0 (by rw [List.length_map] at k1; exact k1)
        refine ⟨_, _, _, _, rfl, rfl, Same.lst e1.ext hwk, hat, small8 (by simp), fun t ht => ?_⟩
        exact q _ _ _ (.later s) (e1.keep ht).2 (e1.keep ht).1 ⟨t, rfl, t_of upd_same⟩ hs
    · refine ⟨_, _, _, _, rfl, rfl, l_of d2.at0, rfl, ?_⟩
      have d3 := d2.tail
      refine ⟨_, rfl, rfl, false, rfl, iteF (iteF ?_)⟩
      refine ⟨_, rfl, rfl, true, rfl, iteT ?_⟩
      refine ⟨_, rfl, Nat.zero_le _, fun q2 hq2 => ?_⟩
      have n1 := d3.drop (o := .lst []) hq2
      refine ⟨.list ((lvs.map V.str).map toD), .list [], .lst (Same.lst n1.ext hlv) (flat_dp (strs_flat hlo)), .lst (l_of upd_same) .nil, flat_sh (strs_flat hlo), flat_sh (l := []) (fun _ m => by cases m), !(lvs.map V.str).isEmpty, by rw [flat_nil], ?_⟩
      cases hle : lvs with
      | nil =>
        refine iteF ?_
        refine ⟨_, rfl, small8 (by simp), fun tm1 htm1 => ?_⟩
        have m1 := n1.drop (o := .tup [.str "ring", .str "mask", .str "unmask"]) htm1
        refine ⟨_, _, rfl, .inr (t_of upd_same), rfl, rfl, false, rfl, iteF ?_⟩
        refine ⟨_, rfl, small8 (by simp), fun tm2 htm2 => ?_⟩
        have m2 := m1.drop (o := .tup [.str "set", .str "clear", .str "await"]) htm2
        refine ⟨_, _, rfl, .inr (t_of upd_same), rfl, rfl, false, rfl, iteF ?_⟩
        refine ⟨_, rfl, rfl, false, rfl, iteF ?_⟩
        refine takenV (v := 0) rfl (by decide) (by decide) hsc m2 fun H2 rr k0 k1 e1 => ⟨_, _, rfl, rfl, small8 (by simp), fun t ht => ?_⟩
        exact q _ _ _ (.run (1 + rr)) (e1.keep ht).2 (e1.keep ht).1 ⟨t, rfl, t_of upd_same⟩ ⟨by omega, by omega⟩
      | cons y0 l0 =>
        have hpos : 0 < lvs.length := by rw [hle]; simp
        refine iteT ?_
        refine ⟨_, rfl, _, rfl, ?_⟩
        refine takenQ (v := 0) (((lvs.map V.str).length : Nat) : Int) rfl (fun Q' h => ⟨_, rfl, _, _, rfl, .inl (Same.lst n1.ext hlv), h⟩) (by rw [List.length_map]; omega) (by rw [List.length_map]; omega) hsc n1 fun H2 rr k0 k1 e1 => ?_
        obtain ⟨s, hs, hat⟩ := str_at (l := lvs) k0 (by rw [List.length_map] at k1; exact k1)
        refine ⟨_, _, _, _, rfl, rfl, Same.lst e1.ext hlv, hat, small8 (by simp), fun t ht => ?_⟩
        exact q _ _ _ (.quiet s) (e1.keep ht).2 (e1.keep ht).1 ⟨t, rfl, t_of upd_same⟩ hs
end
end Cb

namespace Cb
open PySem PySem.Spec PyProof.Rows L2

def N6s : List Str := ["net", "disk", "heat", "fan", "a", "ab"]
def N6 : List V := N6s.map V.str
theorem N6_ok : ∀ x ∈ N6s, nameOk x := by
  intro x m
  simp only [N6s, List.mem_cons, List.not_mem_nil, or_false] at m
  rcases m with rfl | rfl | rfl | rfl | rfl | rfl <;> exact ⟨by decide, by decide +kernel⟩
theorem N6_flat : ∀ x ∈ N6, FlatOk x := strs_flat N6_ok
def unS : V → Str
  | .str s => s
  | _ => ""
theorem perm_strs {nv : List V} (h : nv.Perm N6) : ∃ nms : List Str, nv = nms.map V.str ∧ nms.Perm N6s := by
  refine ⟨nv.map unS, ?_, ?_⟩
  · rw [List.map_map]
    refine (List.map_id nv).symm.trans (List.map_congr_left fun v hv => ?_)
    obtain ⟨s, _, rfl⟩ := List.mem_map.mp (h.mem_iff.mp hv)
    rfl
  · have z := h.map unS
    rwa [show N6.map unS = N6s from rfl] at z
theorem cut_take {xs : List V} {r : Int} (h0 : 0 ≤ r) (h : r < xs.length) : cutV xs none (some (1 + r)) = xs.take (1 + r.toNat) := by
  have e : HT.sIx xs.length xs.length (some (1 + r)) = 1 + r.toNat := by
    unfold HT.sIx
    simp only
    rw [if_neg (by omega : ¬ ((1 + r : Int) < 0))]
    omega
  unfold cutV
  rw [e]
  simp [HT.sIx]
theorem cut_take0 {xs : List V} {r : Int} (h0 : 0 ≤ r) (h : r ≤ xs.length) : cutV xs none (some r) = xs.take r.toNat := by
  have e : HT.sIx xs.length xs.length (some r) = r.toNat := by
    unfold HT.sIx
    simp only
    rw [if_neg (by omega : ¬ (r < 0))]
    omega
  unfold cutV
  rw [e]
  simp [HT.sIx]
def WK : List Str := ["flush", "sweep"]
theorem WK_ok : ∀ x ∈ WK, nameOk x := by
  intro x m
  simp only [WK, List.mem_cons, List.not_mem_nil, or_false] at m
  rcases m with rfl | rfl <;> exact ⟨by decide, by decide +kernel⟩
def sp_law_setup (K : PySem.W.Frag) : Sp := fun vs H Q _ => ∃ (row sc : Addr) (most : Int) (ns : List Int) (K0 : Hp) (M : List (Addr × HO)), vs = [.ref row, .int most] ∧ 1 ≤ most ∧ most ≤ 6 ∧ SqL K K0 sc (ns.map V.int) ∧ Dr K0 H row sc M ∧
  ∀ K1 H' t a b ls ws, Same K0 K1 → Dr K1 H' row sc M → SqT K K1 t [.ref a, .ref b] → LinesAt K K1 a ls → WorksAt K K1 b ws → LsOk ls → WsOk ws → AllOk ls ws → (∃ nms : List Str, nms.Perm N6s ∧ ls.map (·.name) = nms.take ls.length ∧ (ls.length : Int) ≤ most) → ws.map (·.name) = WK.take ws.length → Q (.ref t) H'

section
variable {P : Program} {w : World} {K : PySem.W.Frag} {mg : Str → Option Value} {base : Heap}

abbrev N_law_setup : List Str := ["_law_row", "_law_most", "_law_names", "_law_kinds", "_law_name", "_law_levels", "_law_k", "_law_works", "_law_lines", "_law_steps", "_law_turn", "_law_rows", "_law_work"]
theorem sc_law_setup : FnScope N_law_setup ["_law_row", "_law_most"] (C8.fnScope s_law_setup) := C8.fnScope_by (by decide +kernel)
theorem ok_law_setup {fd : FuncData} (T : Txt K mg) (F : FunD K "_law_setup" "_law_setup" (C8.fnArgs s_law_setup) (C8.fnBody s_law_setup) (C8.fnScope s_law_setup) [] [] (He.ga K "_law_setup") fd) (c__law_taken : C8.Cal P w K mg base 1 "_law_taken" (sp_law_taken K) []) (c__law_mixed : C8.Cal P w K mg base 2 "_law_mixed" (sp_law_mixed K) []) (c__law_step : C8.Cal P w K mg base 2 "_law_step" (sp_law_step K) []) :
    C8.Cal P w K mg base 3 "_law_setup" (sp_law_setup K) [] := by
  refine C8.cal0 (ds := []) ⟨fun_c8 F, T.f__law_setup, F.kp⟩ (F.bindsN fun _ _ _ _ _ _ us hl => match us, hl with | [_, _], _ => rfl) .nil sc_law_setup (fun vs H Q E h => ?_) (fun cdv A outer s H vs Q E hr h => ?_)
  · obtain ⟨_, _, _, _, _, _, rfl, _⟩ := h
    rfl
  · have nd := sc_law_setup.nd
    have hu := hu_of hr
    obtain ⟨row, sc, most, ns, K0, M, rfl, hm1, hm2, hsc, d, q⟩ := h
    refine ⟨_, (pss_cons (ps_set (i := 2) nd rfl (Or.inr rfl) (pe_slice sl_list (C8.pe_c c__law_mixed hr (by decide) rfl (pa_cons (pv 0) (pa_cons (pe_lst (pa_cons pe_str (pa_cons pe_str (pa_cons pe_str (pa_cons pe_str (pa_cons pe_str (pa_cons pe_str pa_nil))))))) pa_nil))) po_none (po_some (pe_op op_add pe_int (C8.pe_c c__law_taken hr (by decide) rfl (pa_cons (pv 0) (pa_cons (pv 1) pa_nil)))))))
      (pss_cons (ps_set (i := 3) nd rfl (Or.inr rfl) (pe_lc (own := [("_law_name", 4)]) rfl nd (pi_list (pv 2)) (blkOk_by (own := [("_law_name", 4)]) (N := N_law_setup) (sc := (C8.fnScope s_law_setup)) (by decide +kernel)) (fun _ _ _ _ _ => (pg_name (i := 4) nd rfl (Or.inl rfl))) (fun _ _ _ _ _ => pts_nil) (fun _ _ _ _ _ => (pe_ix (ix_list : IxR _ (rIxL K)) (pe_lst (pa_cons pe_str (pa_cons pe_str (pa_cons pe_str pa_nil)))) (C8.pe_c c__law_taken hr (by decide) rfl (pa_cons (pv 0) (pa_cons pe_int pa_nil))) (fun _ _ => rfl)))))
      (pss_cons (ps_set (i := 5) nd rfl (Or.inr rfl) (pe_lc (own := [("_law_k", 6)]) rfl nd (pi_range1 (by rfl) T.n_range (pa_cons (pe_callB call_len_seq (by rfl) T.n_len (by decide +kernel) (pa_cons (pv 2) pa_nil)) pa_nil)) (blkOk_by (own := [("_law_k", 6)]) (N := N_law_setup) (sc := (C8.fnScope s_law_setup)) (by decide +kernel)) (fun _ _ _ _ _ => (pg_name (i := 6) nd rfl (Or.inl rfl))) (fun _ _ _ _ _ => (pts_one (pt_cmpR op_eq (pe_ix (ix_list : IxR _ (rIxL K)) (pv 3) (pv 6) (fun _ _ => rfl)) pe_str (nomark _)))) (fun _ _ _ _ _ => (pe_ix (ix_list : IxR _ (rIxL K)) (pv 2) (pv 6) (fun _ _ => rfl)))))
      (pss_cons (ps_set (i := 7) nd rfl (Or.inr rfl) (pe_slice sl_list (pe_lst (pa_cons pe_str (pa_cons pe_str pa_nil))) po_none (po_some (C8.pe_c c__law_taken hr (by decide) rfl (pa_cons (pv 0) (pa_cons pe_int pa_nil))))))
      (pss_cons (ps_set (i := 8) nd rfl (Or.inl rfl) (pe_lst pa_nil))
      (pss_cons (ps_for PassesOwn.never rfl (pi_range1 (by rfl) T.n_range (pa_cons (pe_callB call_len_seq (by rfl) T.n_len (by decide +kernel) (pa_cons (pv 2) pa_nil)) pa_nil)) (pg_name (i := 6) nd rfl (Or.inl rfl)) (pss_cons (ps_setLc (i := 9) (own := [("_law_turn", 10)]) rfl nd rfl rfl (sw_true rfl rfl rfl (by decide +kernel)) (pi_range1 (by rfl) T.n_range (pa_cons (pe_op op_add pe_int (C8.pe_c c__law_taken hr (by decide) rfl (pa_cons (pv 0) (pa_cons pe_int pa_nil)))) pa_nil)) (blkOk_by (own := [("_law_turn", 10)]) (N := N_law_setup) (sc := (C8.fnScope s_law_setup)) (by decide +kernel)) (fun _ _ _ _ _ => (pg_name (i := 10) nd rfl (Or.inl rfl))) (fun _ _ _ _ _ => pts_nil) (fun _ _ _ _ _ => (C8.pe_c c__law_step hr (by decide) rfl (pa_cons (pv 0) (pa_cons (pv 2) (pa_cons (pv 5) (pa_cons (pv 7) pa_nil)))))))
      (pss_one (ps_expr (pe_bm PySem.F.plainAttrs_list PySem.F.slot_list_append PySem.F.type_list_append mt_append (pv 8) (pa_cons (pe_tup (pa_cons (pe_ix (ix_list : IxR _ (rIxL K)) (pv 2) (pv 6) (fun _ _ => rfl)) (pa_cons (pe_ix (ix_list : IxR _ (rIxL K)) (pv 3) (pv 6) (fun _ _ => rfl)) (pa_cons (pe_op op_add pe_int (C8.pe_c c__law_taken hr (by decide) rfl (pa_cons (pv 0) (pa_cons pe_int pa_nil)))) (pa_cons (pe_callTy call_tuple_of (by rfl) T.n_tuple (by decide +kernel) (pa_cons (pv 9) pa_nil)) pa_nil))))) pa_nil))))))
      (pss_cons (ps_setLc (i := 11) (own := [("_law_work", 12)]) rfl nd rfl rfl (sw_true rfl rfl rfl (by decide +kernel)) (pi_list (pv 7)) (blkOk_by (own := [("_law_work", 12)]) (N := N_law_setup) (sc := (C8.fnScope s_law_setup)) (by decide +kernel)) (fun _ _ _ _ _ => (pg_name (i := 12) nd rfl (Or.inl rfl))) (fun _ _ _ _ _ => pts_nil) (fun _ _ _ _ _ => (pe_tup (pa_cons (pv 12) (pa_cons (pe_op op_add pe_int (C8.pe_c c__law_taken hr (by decide) rfl (pa_cons (pv 0) (pa_cons pe_int pa_nil)))) (pa_cons (pe_op op_add pe_int (C8.pe_c c__law_taken hr (by decide) rfl (pa_cons (pv 0) (pa_cons pe_int pa_nil)))) pa_nil))))))
      (pss_one (ps_ret (pe_tup (pa_cons (pe_callTy call_tuple_of (by rfl) T.n_tuple (by decide +kernel) (pa_cons (pv 8) pa_nil)) (pa_cons (pe_callTy call_tuple_of (by rfl) T.n_tuple (by decide +kernel) (pa_cons (pv 11) pa_nil)) pa_nil)))))))))))), ?_⟩
    refine ⟨_, rfl, small8 (by simp), fun ln hln => ?_⟩
    have k0 := d.keep (o := .lst N6) hln
    have hln1 : upd K0 ln (.lst N6) ln = some (.lst N6) := upd_same
    revert k0 hln1
    generalize upd K0 ln (.lst N6) = K1
    rintro ⟨d1, g1⟩ hln1
    have sc1 := Same.lst g1 hsc
    refine ⟨row, sc, ln, ns, N6, K1, M, rfl, sc1, l_of hln1, by decide, N6_flat, d1, fun K2 H2 np nv g2 d2 hnp hnv => ?_⟩
    have sc2 := Same.lst g2 sc1
    have hnl : nv.length = 6 := hnv.length_eq
    refine takenW (v := 0) (u := 1) rfl rfl (by omega) (by omega) sc2 d2 fun H3 r a1 a2 d3 => ?_
    refine ⟨_, _, rfl, rfl, _, rfl, np, nv, rfl, l_of (d3.ext _ _ hnp), fun np2 hnp2 => ?_⟩
    rw [cut_take a1 (by omega)]
    obtain ⟨nmsA, rfl, hnmp⟩ := perm_strs hnv
    rw [← List.map_take]
    generalize hnms : nmsA.take (1 + r.toNat) = nms
    have hkl : nms.length = 1 + r.toNat := by rw [← hnms]; simp at hnl ⊢; omega
    have k3 := d3.keep (o := .lst (nms.map V.str)) hnp2
    have hnp3 : upd K2 np2 (.lst (nms.map V.str)) np2 = some (.lst (nms.map V.str)) := upd_same
    revert k3 hnp3
    generalize upd K2 np2 (.lst (nms.map V.str)) = K3
    rintro ⟨d4, g3⟩ hnp3
    have sc3 := Same.lst g3 sc2
    refine ⟨_, rfl, np2, rfl, ⟨_, l_of (d4.ext _ _ hnp3)⟩, fun D1 hD1 => ?_⟩
    refine lc_it (walk_list (xs := nms.map V.str)) (fun j H' => ∃ kv : List Bool, kv.length = j ∧ Dr K3 H' row sc ((D1, .lst (kv.map fun b => .str (kindS b))) :: M)) ⟨[], rfl, d4.own hD1⟩ ?_ ?_ ?_
    · rintro j H' _ ⟨kv, _, d⟩
      exact l_of (d.ext _ _ hnp3)
    · rintro j v H4 H5 hj ⟨kv, hkv, d5⟩ ⟨rfl, _⟩
      rw [List.length_map, hkl] at hj
      refine ⟨rfl, small8 (by simp), fun wp hwp => ?_⟩
      refine takenV (v := 0) rfl (by decide) (by decide) sc3 (d5.own (o := .lst [.str "edge", .str "edge", .str "level"]) hwp) fun H6 z z0 z1 d6 => ?_
      have hz : ∃ b : Bool, atI [V.str "edge", V.str "edge", V.str "level"] z = some (.str (kindS b)) := by
        have : z = 0 ∨ z = 1 ∨ z = 2 := by omega
        rcases this with rfl | rfl | rfl
        · exact ⟨false, rfl⟩
        · exact ⟨false, rfl⟩
        · exact ⟨true, rfl⟩
      obtain ⟨b, hb⟩ := hz
      refine ⟨_, _, _, _, rfl, rfl, l_of d6.at0, hb, _, d6.at1, ?_, kv ++ [b], by simp [hkv], ?_⟩
      · rw [List.length_map]
        exact sml (m := 9) (by omega) (by decide)
      · rw [List.map_append]
        exact d6.tail.put
    rintro H4 ⟨kv, hkv, d5⟩
    rw [List.length_map] at hkv
    have k5 := d5.freeze
    have hK1 : upd K3 D1 (.lst (kv.map fun b => .str (kindS b))) D1 = some (.lst (kv.map fun b => .str (kindS b))) := upd_same
    revert k5 hK1
    generalize upd K3 D1 (.lst (kv.map fun b => .str (kindS b))) = K4
    rintro ⟨d6, g4⟩ hK1
    have sc4 := Same.lst g4 sc3
    have hnp4 := g4 _ _ hnp3
    refine ⟨_, rfl, _, _, rfl, .inl (l_of (d6.ext _ _ hnp4)), _, rfl, by rw [List.length_map]; omega, by rw [List.length_map]; omega, fun D2 hD2 => ?_⟩
    have hn6 : nms.length ≤ 6 := by omega
    refine lc_it (walk_range (lo := 0) (n := (((nms.map V.str).length : Nat) : Int).toNat)) (fun j H' => ∃ lvs : List Str, Dr K4 H' row sc ((D2, .lst (lvs.map V.str)) :: M) ∧ lvs.length ≤ j ∧ ∀ x ∈ lvs, ∃ i : Nat, nms[i]? = some x ∧ kv[i]? = some true) ⟨[], d6.own hD2, Nat.le_refl _, fun _ m => nomatch m⟩ (fun _ _ _ _ => trivial) ?_ ?_
    · rintro j v H5 H6 hj ⟨lvs, d7, hll, hlv⟩ ⟨rfl, hv⟩
      obtain rfl : v = V.int ((j : Nat) : Int) := hv.trans (congrArg V.int (by omega))
      rw [List.length_map] at hj
      have hjn : j < nms.length := by omega
      have hjk : j < kv.length := by omega
      have at1 : atI (kv.map fun b => V.str (kindS b)) (j : Nat) = some (.str (kindS kv[j])) := by
        refine atIn ?_
        rw [List.getElem?_map, List.getElem?_eq_getElem hjk]
        rfl
      have at2 : atI (nms.map V.str) (j : Nat) = some (.str nms[j]) := by
        refine atIn ?_
        rw [List.getElem?_map, List.getElem?_eq_getElem hjn]
        rfl
      refine ⟨rfl, _, rfl, _, rfl, _, _, _, _, rfl, rfl, l_of (d7.ext _ _ hK1), at1, rfl, kv[j], ?_, ?_⟩
      · cases kv[j] <;> rfl
      cases hb : kv[j] with
      | true =>
        refine iteT ⟨_, rfl, _, rfl, _, _, _, _, rfl, rfl, l_of (d7.ext _ _ hnp4), at2, _, d7.at0, ?_, lvs ++ [nms[j]], ?_, by simp; omega, fun x m => ?_⟩
        · rw [List.length_map]
          exact sml (m := 9) (by omega) (by decide)
        · rw [List.map_append]
          exact d7.put
        · rcases List.mem_append.mp m with m | m
          · exact hlv x m
          · obtain rfl := List.mem_singleton.mp m
            exact ⟨j, List.getElem?_eq_getElem hjn, by rw [List.getElem?_eq_getElem hjk, hb]⟩
      | false => exact iteF ⟨lvs, d7, by omega, hlv⟩
    rintro H5 ⟨lvs, d7, hll, hlv⟩
    rw [List.length_map] at hll
    have k7 := d7.freeze
    have hL1 : upd K4 D2 (.lst (lvs.map V.str)) D2 = some (.lst (lvs.map V.str)) := upd_same
    revert k7 hL1
    generalize upd K4 D2 (.lst (lvs.map V.str)) = K5
    rintro ⟨d8, g5⟩ hL1
    have sc5 := Same.lst g5 sc4
    have hnp5 := g5 _ _ hnp4
    have hK5 := g5 _ _ hK1
    refine ⟨small8 (by simp), fun wl hwl => ?_⟩
    have k8 := d8.keep (o := .lst [.str "flush", .str "sweep"]) hwl
    have hwl1 : upd K5 wl (.lst [.str "flush", .str "sweep"]) wl = some (.lst [.str "flush", .str "sweep"]) := upd_same
    revert k8 hwl1
    generalize upd K5 wl (.lst [.str "flush", .str "sweep"]) = K6
    rintro ⟨d9, g6⟩ hwl1
    have sc6 := Same.lst g6 sc5
    refine takenV (v := 0) rfl (by decide) (by decide) sc6 d9 fun H6 wr wr0 wr1 d10 => ?_
    refine ⟨_, rfl, wl, _, rfl, l_of (d10.ext _ _ hwl1), fun wk hwk => ?_⟩
    rw [cut_take0 wr0 (by simp; omega), show [V.str "flush", V.str "sweep"] = WK.map V.str from rfl, ← List.map_take]
    have hwks : ∀ x ∈ WK.take wr.toNat, nameOk x := fun x m => WK_ok x (List.mem_of_mem_take m)
    have hwl2 : (WK.take wr.toNat).length ≤ 2 := by rw [List.length_take]; exact Nat.min_le_right _ _
    have hwks2 : ∀ j, j ≤ (WK.take wr.toNat).length → (WK.take wr.toNat).take j = WK.take j := fun j hj => by
      rw [List.take_take, Nat.min_eq_left]
      rw [List.length_take] at hj
      omega
    generalize WK.take wr.toNat = wks at hwks hwl2 hwks2
    have k10 := d10.keep (o := .lst (wks.map V.str)) hwk
    have hwk1 : upd K6 wk (.lst (wks.map V.str)) wk = some (.lst (wks.map V.str)) := upd_same
    revert k10 hwk1
    generalize upd K6 wk (.lst (wks.map V.str)) = K7
    rintro ⟨d11, g7⟩ hwk1
    have sc7 := Same.lst g7 sc6
    have g57 := Same.tr g6 g7
    have hnp7 := g57 _ _ hnp5
    have hK7 := g57 _ _ hK5
    have hL7 := g57 _ _ hL1
    have g07 : Same K0 K7 := Same.tr g1 (Same.tr g2 (Same.tr g3 (Same.tr g4 (Same.tr g5 g57))))
    have hnd : nms.Nodup := by
      rw [← hnms]
      exact ((hnmp.nodup_iff.mpr (by decide)).sublist (List.take_sublist _ _))
    have hno : ∀ x ∈ nms, nameOk x := fun x m => N6_ok x (hnmp.mem_iff.mp (List.mem_of_mem_take (hnms ▸ m)))
    have hlvo : ∀ x ∈ lvs, nameOk x := fun x m => by
      obtain ⟨i, hi, _⟩ := hlv x m
      exact hno x (List.mem_of_getElem? hi)
    refine ⟨Nat.zero_le _, fun lf hlf => ?_⟩
    have d12 := d11.own (o := .lst []) hlf
    refine ⟨_, rfl, _, _, rfl, .inl (l_of (d12.ext _ _ hnp7)), _, rfl, by rw [List.length_map]; omega, by rw [List.length_map]; omega, ?_⟩
    refine for_it (walk_range (lo := 0) (n := (((nms.map V.str).length : Nat) : Int).toNat)) (fun i σ H' => ∃ y4 y6 y9 y10 y11 y12 K' facc lns, σ = [some (.ref row), some (.int most), some (.ref np2), some (.ref D1), y4, some (.ref D2), y6, some (.ref wk), some (.ref lf), y9, y10, y11, y12] ∧ Same K7 K' ∧ Dr K' H' row sc ((lf, .lst facc) :: M) ∧ Paired (LineAt K K') facc lns ∧ lns.map (·.name) = nms.take i ∧ lns.map (·.lvl) = kv.take i ∧ ∀ l ∈ lns, 1 ≤ l.rank ∧ l.rank ≤ 9 ∧ 1 ≤ l.steps.length ∧ l.steps.length ≤ 4 ∧ ∀ s ∈ l.steps, DrawnOk nms lvs wks s) ⟨_, _, _, _, _, _, K7, [], [], rfl, Same.refl _, d12, .nil, rfl, rfl, (fun _ m => nomatch m)⟩ (fun _ _ _ _ _ => trivial) ?_ ?_
    · rintro i v σ H7 H8 hi ⟨y4, y6, y9, y10, y11, y12, K', facc, lns, rfl, g, e1, pr, pn, pl, po⟩ ⟨rfl, hv⟩
      obtain rfl : v = V.int ((i : Nat) : Int) := hv.trans (congrArg V.int (by omega))
      rw [List.length_map] at hi
      have hin : i < nms.length := by omega
      have hik : i < kv.length := by omega
      have scL := Same.lst g sc7
      have hfl : facc.length = i := by
        have z1 := pr.length
        have z2 := congrArg List.length pn
        rw [List.length_map, List.length_take] at z2
        omega
      refine takenV (v := 0) rfl (by decide) (by decide) scL e1 fun H9 r0 b1 b2 e2 => ?_
      refine ⟨_, _, rfl, rfl, _, rfl, by omega, by omega, fun D hD => ?_⟩
      refine lc_it (walk_range (lo := 0) (n := (1 + r0).toNat)) (fun j H' => ∃ K'' acc sts, Same K' K'' ∧ Dr K'' H' row sc ((D, .lst acc) :: (lf, .lst facc) :: M) ∧ Paired (StepAt K K'') acc sts ∧ sts.length = j ∧ ∀ s ∈ sts, DrawnOk nms lvs wks s) ⟨K', [], [], Same.refl _, e2.own hD, .nil, rfl, (fun _ m => nomatch m)⟩ (fun _ _ _ _ => trivial) ?_ ?_
      · rintro j v H10 H11 hj ⟨K'', acc, sts, g', d', pr', hl', ho'⟩ ⟨rfl, _⟩
        have hpl := pr'.length
        have gg := Same.tr g g'
        refine ⟨rfl, _, rfl, _, rfl, _, rfl, _, rfl, row, sc, np2, D2, wk, ns, nms, lvs, wks, K'', _, rfl, Same.lst gg sc7, l_of (gg _ _ hnp7), l_of (gg _ _ hL7), l_of (gg _ _ hwk1), ⟨by omega, by omega, by omega, by omega⟩, hlvo, hwks, d', fun K3' H12 v st g3' d3' hst hso => ?_⟩
        refine ⟨_, d3'.at0, sml (m := 9) (by omega) (by decide), K3', _, sts ++ [st], Same.tr g' g3', d3'.put, Paired.snoc (pr'.mono fun _ _ z => StepAt.up g3' z) hst, by simp [hl'], fun s m => ?_⟩
        rcases List.mem_append.mp m with m | m
        · exact ho' s m
        · obtain rfl := List.mem_singleton.mp m
          exact hso
      rintro H10 ⟨K8, sacc, sts, g8, e3, prs, hls, hso⟩
      have hni : (nms.map V.str)[i]? = some (.str nms[i]) := by rw [List.getElem?_map, List.getElem?_eq_getElem hin]; rfl
      have hki : (kv.map fun b => V.str (kindS b))[i]? = some (.str (kindS kv[i])) := by rw [List.getElem?_map, List.getElem?_eq_getElem hik]; rfl
      have g78 := Same.tr g g8
      refine ⟨_, rfl, .inl ⟨rfl, _, .inl (.inl e3.at1)⟩, _, rfl, _, rfl, _, _, _, _, rfl, rfl, l_of (e3.ext _ _ (g78 _ _ hnp7)), atIn hni, ?_⟩
      refine ⟨_, rfl, _, rfl, _, _, _, _, rfl, rfl, l_of (e3.ext _ _ (g78 _ _ hK7)), atIn hki, ?_⟩
      refine takenV (v := 0) rfl (by decide) (by decide) (Same.lst g78 sc7) e3 fun H11 rk k0 k1 e4 => ⟨_, _, rfl, rfl, ?_⟩
      refine ⟨_, rfl, _, _, rfl, .inl ⟨l_of e4.at0, fun h hh => ?_⟩⟩
      have kh := e4.tail.keep (o := .tup sacc) hh
      have hh3 : upd K8 h (.tup sacc) h = some (.tup sacc) := upd_same
      revert kh hh3
      generalize upd K8 h (.tup sacc) = K9
      rintro ⟨e5, g9⟩ hh3
      refine ⟨small8 (by simp), fun tl htl => ?_⟩
      have kl := e5.keep (o := .tup [.str nms[i], .str (kindS kv[i]), .int (1 + rk), .ref h]) htl
      have hl3 : upd K9 tl (.tup [.str nms[i], .str (kindS kv[i]), .int (1 + rk), .ref h]) tl = some (.tup [.str nms[i], .str (kindS kv[i]), .int (1 + rk), .ref h]) := upd_same
      revert kl hl3
      generalize upd K9 tl (.tup [.str nms[i], .str (kindS kv[i]), .int (1 + rk), .ref h]) = K10
      rintro ⟨e6, g10⟩ hl3
      have gl := Same.tr g8 (Same.tr g9 g10)
      refine ⟨_, _, _, rfl, rfl, e6.at0, sml (m := 9) (by omega) (by decide), ?_⟩
      refine ⟨_, _, _, _, _, _, K10, facc ++ [.ref tl], lns ++ [⟨nms[i], kv[i], 1 + rk, sts⟩], rfl, Same.tr g gl, e6.put, Paired.snoc (pr.mono fun _ _ z => LineAt.up gl z) ⟨tl, h, sacc, rfl, t_of hl3, t_of (g10 _ _ hh3), prs.mono fun _ _ z => StepAt.up (Same.tr g9 g10) z⟩, ?_, ?_, fun l m => ?_⟩
      · rw [take_snoc (List.getElem?_eq_getElem hin), ← pn]
        simp
      · rw [take_snoc (List.getElem?_eq_getElem hik), ← pl]
        simp
      · rcases List.mem_append.mp m with m | m
        · exact po l m
        · obtain rfl := List.mem_singleton.mp m
          exact ⟨by simp only; omega, by simp only; omega, by simp only; omega, by simp only; omega, hso⟩
    · rintro σ H7 ⟨y4, y6, y9, y10, y11, y12, K', facc, lns, rfl, g, e1, pr, pn, pl, po⟩
      rw [List.length_map, Int.toNat_natCast] at pn pl
      rw [List.take_of_length_le (Nat.le_refl _)] at pn
      rw [List.take_of_length_le (by omega)] at pl
      have scL := Same.lst g sc7
      refine ⟨_, rfl, wk, rfl, ⟨_, l_of (e1.ext _ _ (g _ _ hwk1))⟩, fun D3 hD3 => ?_⟩
      refine lc_it (walk_list (xs := wks.map V.str)) (fun j H' => ∃ K'' acc ws, Same K' K'' ∧ Dr K'' H' row sc ((D3, .lst acc) :: (lf, .lst facc) :: M) ∧ Paired (WorkAt K K'') acc ws ∧ ws.map (·.name) = wks.take j ∧ ∀ w ∈ ws, 1 ≤ w.rank ∧ w.rank ≤ 3 ∧ 1 ≤ w.ticks ∧ w.ticks ≤ 4) ⟨K', [], [], Same.refl _, e1.own hD3, .nil, rfl, (fun _ m => nomatch m)⟩ ?_ ?_ ?_
      · rintro j H' _ ⟨K'', acc, ws, g', d', _⟩
        exact l_of (d'.ext _ _ (g' _ _ (g _ _ hwk1)))
      · rintro j v H8 H9 hj ⟨K'', acc, ws, g', d', pw, nw, bw⟩ ⟨rfl, e2⟩
        rw [List.getElem?_map] at e2
        obtain ⟨x, hx, rfl⟩ := Option.map_eq_some_iff.mp e2
        have hal : acc.length ≤ 2 := by
          have z1 := pw.length
          have z2 := congrArg List.length nw
          rw [List.length_map, List.length_take] at z2
          omega
        refine ⟨rfl, _, rfl, ?_⟩
        refine takenV (v := 0) rfl (by decide) (by decide) (Same.lst g' scL) d' fun H10 r1 q0 q1 e3 => ⟨_, _, rfl, rfl, ?_⟩
        refine takenV (v := 0) rfl (by decide) (by decide) (Same.lst g' scL) e3 fun H11 r2 p0 p1 e4 => ⟨_, _, rfl, rfl, small8 (by simp), fun t ht => ?_⟩
        have kk := e4.keep (o := .tup [.str x, .int (1 + r1), .int (1 + r2)]) ht
        refine ⟨_, kk.1.at0, sml (m := 9) (by omega) (by decide), _, _, ws ++ [⟨x, 1 + r1, 1 + r2⟩], Same.tr g' kk.2, kk.1.put, Paired.snoc (pw.mono fun _ _ z => WorkAt.up kk.2 z) ⟨t, rfl, t_of upd_same⟩, ?_, fun w m => ?_⟩
        · rw [take_snoc hx, ← nw]
          simp
        · rcases List.mem_append.mp m with m | m
          · exact bw w m
          · obtain rfl := List.mem_singleton.mp m
            exact ⟨by simp only; omega, by simp only; omega, by simp only; omega, by simp only; omega⟩
      rintro H8 ⟨K8, acc, ws, g8, e2, pw, nw, bw⟩
      rw [List.length_map, List.take_of_length_le (Nat.le_refl _)] at nw
      refine ⟨_, rfl, _, _, rfl, .inl ⟨l_of e2.at1, fun a ha => ?_⟩⟩
      have ka := e2.keep (o := .tup facc) ha
      have ha3 : upd K8 a (.tup facc) a = some (.tup facc) := upd_same
      revert ka ha3
      generalize upd K8 a (.tup facc) = K9
      rintro ⟨e3, g9⟩ ha3
      refine ⟨_, rfl, _, _, rfl, .inl ⟨l_of e3.at0, fun b hb => ?_⟩⟩
      have kb := e3.keep (o := .tup acc) hb
      have hb3 : upd K9 b (.tup acc) b = some (.tup acc) := upd_same
      revert kb hb3
      generalize upd K9 b (.tup acc) = K10
      rintro ⟨e4, g10⟩ hb3
      refine ⟨small8 (by simp), fun t ht => ?_⟩
      have kt := e4.tail.tail.keep (o := .tup [.ref a, .ref b]) ht
      have gE := Same.tr g8 (Same.tr g9 (Same.tr g10 kt.2))
      have hln2 : lns.length = nms.length := by
        have z := congrArg List.length pn
        rwa [List.length_map] at z
      have hwn2 : ws.length = wks.length := by
        have z := congrArg List.length nw
        rwa [List.length_map] at z
      have mem_n : ∀ x ∈ nms, ∃ l ∈ lns, l.name = x := fun x m => List.mem_map.mp (pn ▸ m)
      refine q _ _ t a b lns ws (Same.tr g07 (Same.tr g gE)) kt.1 (t_of upd_same) ⟨facc, t_of (kt.2 _ _ (g10 _ _ ha3)), pr.mono fun _ _ z => LineAt.up gE z⟩ ⟨acc, t_of (kt.2 _ _ hb3), pw.mono fun _ _ z => WorkAt.up (Same.tr g9 (Same.tr g10 kt.2)) z⟩ ⟨fun l m => ?_, by rw [pn]; exact hnd, ?_, by omega⟩ ⟨fun w m => ?_, ?_, by omega⟩ (fun l m s hs => ?_) ⟨nmsA, hnmp, ?_, by omega⟩ ?_
      · have z := po l m
        exact ⟨hno _ (pn ▸ List.mem_map_of_mem m), z.1, z.2.1, z.2.2.1, by omega⟩
      · intro e
        rw [e] at hln2
        simp at hln2
        omega
      · have z := bw w m
        exact ⟨hwks _ (nw ▸ List.mem_map_of_mem m), z.1, by omega, z.2.2.1, by omega⟩
      · have z := hwks2 _ (Nat.le_refl _)
        rw [List.take_of_length_le (Nat.le_refl _)] at z
        rw [nw, z]
        exact (List.take_sublist _ _).nodup (by decide)
      · have z := (po l m).2.2.2.2 s hs
        cases s with
        | run n => exact ⟨z.1, by have := z.2; omega⟩
        | ring x => exact mem_n x z
        | mask x => exact mem_n x z
        | unmask x => exact mem_n x z
        | quiet x =>
          obtain ⟨i, hi, hk⟩ := hlv x z
          have h1 : lns[i]?.map (·.name) = some x := by rw [← List.getElem?_map, pn]; exact hi
          have h2 : lns[i]?.map (·.lvl) = some true := by rw [← List.getElem?_map, pl]; exact hk
          cases hl : lns[i]? with
          | none =>
            rw [hl] at h1
            cases h1
          | some l' =>
            rw [hl] at h1 h2
            exact ⟨l', List.mem_of_getElem? hl, Option.some.inj h1, Option.some.inj h2⟩
        | setf f => exact Nat.le_trans z (by decide)
        | clearf f => exact Nat.le_trans z (by decide)
        | await f => exact Nat.le_trans z (by decide)
        | bar b => exact z
        | later x => exact List.mem_map.mp (nw ▸ z)
      · rw [pn, ← hnms, hln2, hkl]
      · rw [nw, hwn2]
        have z := hwks2 _ (Nat.le_refl _)
        rw [List.take_of_length_le (Nat.le_refl _)] at z
        exact z
    
end
end Cb

/-! d.update(e), two dicts with keys of one kind -/
namespace Cb
open PySem PySem.Spec PyProof.Rows L2
theorem d_update {X : Cx} {pins : List (Addr × Obj)} {σ : L2.St} {H : Hp} {s : Shared} {A : Around} {E : Value → Shared → Prop} {a e : Addr} {kvs more : List (Key × V)} {Q : Value → Shared → Prop} (I : L2.Inv X pins σ H s) (ha : H a = some (.dK kvs)) (he : H e = some (.dK more)) (hne : a ≠ e) (hz : kvs.length + more.length ≤ sizeLine)
    (h : ∀ s', L2.Inv X pins σ (upd H a (.dK (mergeK kvs more))) s' → Q .none s') : wpAny (model X.prog X.w) A (call (.builtin "dict.update") [.ref a, .ref e]) Q E s := by
  obtain ⟨z1, hd1, vs1, rel1, dd1⟩ := dk_of I.hok ha
  obtain ⟨z2, hd2, vs2, rel2, dd2⟩ := dk_of I.hok he
  have l1 := rel1.length
  have l2 := rel2.length
  refine call_meetsIn PySem.F.slot_dict_update dd1.typeIs PySem.F.entry_dict_update (PySem.F.args_dict_update_2 _ _) (meets_dict_update (mixKind X.prog X.w) a e hne hd2) ⟨vs1, vs2, dd1, dd2, by rw [← l1, ← l2]; exact hz, fun h' m1 _ hs => h _ ?_⟩
  have hq : ∃ q, h'.get? a = some q := let ⟨q, _, _, hq, _⟩ := m1; ⟨q, hq⟩
  exact d_write (t' := s.toks) I (by rw [ha]; exact True.intro) hs hq (dk_new (Nat.le_trans (length_mergeK more kvs) hz) hd1 (rel2.merge rel1) m1)
def rDUpd : V → List V → Hp → VK → Prop := fun x vs H Q => ∃ (a e : Addr) (kvs more : List (Key × V)), x = .ref a ∧ vs = [.ref e] ∧ a ≠ e ∧ H a = some (.dK kvs) ∧ H e = some (.dK more) ∧ kvs.length + more.length ≤ sizeLine ∧ Q .non (upd H a (.dK (mergeK kvs more)))
theorem mtd_update {X : Cx} : MtR X "dict.update" rDUpd := by
  intro pins s σ H x vs v us Q I rx rv h
  obtain ⟨a, e, kvs, more, ex, ev, hne, ha, he, hz, q⟩ := h
  subst ex
  subst ev
  obtain rfl : v = Value.ref a := rx
  obtain ⟨u, rfl, hu⟩ : ∃ u, us = [u] ∧ RelV (.ref e) u := by
    cases rv with
    | cons h t =>
      cases t
      exact ⟨_, rfl, h⟩
  obtain rfl : u = Value.ref e := hu
  exact d_update I ha he hne hz fun s' I' => ⟨.non, _, I', rfl, q⟩
end Cb

namespace Cb
open PySem PySem.Spec PyProof.Rows L2

/-- the addresses of a model -/
structure AdM where
  m : Addr
  ld : Addr
  wd : Addr
  sh : Addr
  ed : Addr
  hi : Addr
  up : Addr
  ca : Addr
  jo : Addr
  lo : Addr
  sp : Addr
  jn : Addr
structure MdD where
  shut : List Str
  edge : List Str
  high : List Str
  up : List Int
  bar : Int
  calls : List CallD
  jobs : List (Str × Int)
  now : Int
  log : List (Int × Ev)
  s0 : Int
  s1 : Int
  s2 : Int
  s3 : Int
  joined : List Str
def mdK (A : AdM) (d : MdD) : List (Key × V) := [(.inr "lines", .ref A.ld), (.inr "works", .ref A.wd), (.inr "shut", .ref A.sh), (.inr "edge", .ref A.ed), (.inr "high", .ref A.hi), (.inr "up", .ref A.up), (.inr "bar", .int d.bar), (.inr "calls", .ref A.ca), (.inr "jobs", .ref A.jo), (.inr "now", .int d.now), (.inr "log", .ref A.lo), (.inr "spent", .ref A.sp), (.inr "joined", .ref A.jn)]
def LogAt (K : PySem.W.Frag) (H : Hp) (v : V) (e : Int × Ev) : Prop := ∃ t, v = .ref t ∧ SqT K H t [.int e.1, .str e.2.word, .str e.2.name]
theorem LogAt.upk {K : PySem.W.Frag} {H H' : Hp} {v : V} {r : Int × Ev} (e : Same H H') (h : LogAt K H v r) : LogAt K H' v r := h.elim fun a h => ⟨a, h.1, Same.tup e h.2⟩
def layM (A : AdM) (d : MdD) (cv jv gv : List V) (M : List (Addr × HO)) : List (Addr × HO) :=
  (A.m, .dK (mdK A d)) :: (A.sh, .lst (d.shut.map V.str)) :: (A.ed, .lst (d.edge.map V.str)) :: (A.hi, .lst (d.high.map V.str)) :: (A.up, .lst (d.up.map V.int)) :: (A.ca, .lst cv) :: (A.jo, .lst jv) :: (A.lo, .lst gv) :: (A.sp, .lst [.int d.s0, .int d.s1, .int d.s2, .int d.s3]) :: (A.jn, .lst (d.joined.map V.str)) :: M
def byW (ws : List WorkD) (xs : List V) : List (Key × V) := (ws.zip xs).map fun p => (.inr p.1.name, p.2)
structure TabsAt (K : PySem.W.Frag) (H : Hp) (A : AdM) (ls : List LineD) (ws : List WorkD) : Prop where
  l : ∃ xs, H A.ld = some (.dK (byN ls xs)) ∧ Paired (LineAt K H) xs ls
  w : ∃ xs, H A.wd = some (.dK (byW ws xs)) ∧ Paired (WorkAt K H) xs ws
structure OwnM (K : PySem.W.Frag) (A : AdM) (ls : List LineD) (ws : List WorkD) (K0 H : Hp) (d : MdD) (M : List (Addr × HO)) : Prop where
  tb : TabsAt K K0 A ls ws
  ex : ∃ cv jv gv, Paired (CallAt K K0) cv d.calls ∧ Paired (RowAt K K0) jv d.jobs ∧ Paired (LogAt K K0) gv d.log ∧ Sep K0 H (layM A d cv jv gv M)
def md0 : MdD := ⟨[], [], [], [], 0, [], [], 0, [], 0, 0, 0, 0, []⟩
theorem mergeK_app : ∀ {more acc : List (Key × V)}, ((acc ++ more).map (·.1)).Nodup → mergeK acc more = acc ++ more
  | [], acc, _ => (List.append_nil acc).symm
  | p :: r, acc, h => by
    show mergeK (putK acc p.1 p.2) r = _
    have hk : ∀ e ∈ acc, e.1 ≠ p.1 := fun e m q => by
      rw [List.map_append, List.nodup_append] at h
      exact h.2.2 e.1 (List.mem_map_of_mem m) p.1 (by simp) q
    rw [putK_new hk, mergeK_app (by simpa using h), List.append_assoc]
    rfl
theorem byN_keys {ls : List LineD} : ∀ {xs : List V}, xs.length = ls.length → (byN ls xs).map (·.1) = ls.map fun l => (.inr l.name : Key) := by
  induction ls with
  | nil => intro xs _; rfl
  | cons l ls ih =>
    intro xs h
    cases xs with
    | nil => simp at h
    | cons x xs =>
      have z := ih (xs := xs) (by simpa using h)
      unfold byN at z ⊢
      rw [List.zip_cons_cons, List.map_cons, List.map_cons, List.map_cons, z]
theorem byW_keys {ls : List WorkD} : ∀ {xs : List V}, xs.length = ls.length → (byW ls xs).map (·.1) = ls.map fun l => (.inr l.name : Key) := by
  induction ls with
  | nil => intro xs _; rfl
  | cons l ls ih =>
    intro xs h
    cases xs with
    | nil => simp at h
    | cons x xs =>
      have z := ih (xs := xs) (by simpa using h)
      unfold byW at z ⊢
      rw [List.zip_cons_cons, List.map_cons, List.map_cons, List.map_cons, z]
theorem keys_nd {ns : List Str} (h : ns.Nodup) : (ns.map fun n => (.inr n : Key)).Nodup := by
  unfold List.Nodup at h ⊢
  rw [List.pairwise_map]
  exact h.imp fun ne e => ne (by injection e)
theorem zip_take {α β : Type} {l : List α} {m : List β} {i : Nat} {a : α} {b : β} (h : l[i]? = some a) (g : m[i]? = some b) : (l.take (i + 1)).zip (m.take (i + 1)) = (l.take i).zip (m.take i) ++ [(a, b)] := by
  rw [take_snoc h, take_snoc g, List.zip_append]
  · rfl
  · have h1 := (List.getElem?_eq_some_iff.mp h).1
    have h2 := (List.getElem?_eq_some_iff.mp g).1
    simp
    omega
def PairAt (H : Hp) (p : Addr) (kv : Key × V) : Prop := H p = some (.tup [kV kv.1, kv.2])
def sp_law_new (K : PySem.W.Frag) : Sp := fun vs H Q _ => ∃ (a b : Addr) (ls : List LineD) (ws : List WorkD) (K0 : Hp) (M : List (Addr × HO)), vs = [.ref a, .ref b] ∧ LinesAt K K0 a ls ∧ WorksAt K K0 b ws ∧ LsOk ls ∧ WsOk ws ∧ Sep K0 H M ∧
  ∀ K1 H' A, Same K0 K1 → OwnM K A ls ws K1 H' md0 M → Q (.ref A.m) H'

section
variable {P : Program} {w : World} {K : PySem.W.Frag} {mg : Str → Option Value} {base : Heap}

abbrev N_law_new : List Str := ["_law_lines", "_law_works", "_law_m", "_law_line", "_law_work"]
theorem sc_law_new : FnScope N_law_new ["_law_lines", "_law_works"] (C8.fnScope s_law_new) := C8.fnScope_by (by decide +kernel)
theorem ok_law_new {fd : FuncData} (T : Txt K mg) (F : FunD K "_law_new" "_law_new" (C8.fnArgs s_law_new) (C8.fnBody s_law_new) (C8.fnScope s_law_new) [] [] (He.ga K "_law_new") fd) :
    C8.Cal P w K mg base 1 "_law_new" (sp_law_new K) [] := by
  refine C8.cal0 (ds := []) ⟨fun_c8 F, T.f__law_new, F.kp⟩ (F.bindsN fun _ _ _ _ _ _ us hl => match us, hl with | [_, _], _ => rfl) .nil sc_law_new (fun vs H Q E h => ?_) (fun cdv A outer s H vs Q E hr h => ?_)
  · obtain ⟨_, _, _, _, _, _, rfl, _⟩ := h
    rfl
  · have nd := sc_law_new.nd
    have hu := hu_of hr
    obtain ⟨a, b, ls, ws, K0, M, rfl, ⟨xs, hs, hp⟩, ⟨ys, ht, hw⟩, ok, okw, sp, q⟩ := h
    refine ⟨_, (pss_cons (ps_set (i := 2) nd rfl (Or.inl rfl) (pe_disp (pps_cons pe_str (pe_callTy (call_dictP rfl) (by rfl) T.n_dict (by decide +kernel) (pa_cons (pe_lc (own := [("_law_line", 3)]) rfl nd (pi_tup (pv 0)) (blkOk_by (own := [("_law_line", 3)]) (N := N_law_new) (sc := (C8.fnScope s_law_new)) (by decide +kernel)) (fun _ _ _ _ _ => (pg_name (i := 3) nd rfl (Or.inl rfl))) (fun _ _ _ _ _ => pts_nil) (fun _ _ _ _ _ => (pe_tup (pa_cons (pe_ix (ix_tup : IxR _ (rIxT K)) (pv 3) pe_int (fun _ _ => rfl)) (pa_cons (pv 3) pa_nil))))) pa_nil)) (pps_cons pe_str (pe_callTy (call_dictP rfl) (by rfl) T.n_dict (by decide +kernel) (pa_cons (pe_lc (own := [("_law_work", 4)]) rfl nd (pi_tup (pv 1)) (blkOk_by (own := [("_law_work", 4)]) (N := N_law_new) (sc := (C8.fnScope s_law_new)) (by decide +kernel)) (fun _ _ _ _ _ => (pg_name (i := 4) nd rfl (Or.inl rfl))) (fun _ _ _ _ _ => pts_nil) (fun _ _ _ _ _ => (pe_tup (pa_cons (pe_ix (ix_tup : IxR _ (rIxT K)) (pv 4) pe_int (fun _ _ => rfl)) (pa_cons (pv 4) pa_nil))))) pa_nil)) pps_nil)) rfl rfl (List.cons_ne_nil _ _) (Nat.le_of_ble_eq_true rfl)))
      (pss_cons (ps_expr (pe_bm PySem.F.plainAttrs_dict PySem.F.slot_dict_update PySem.F.type_dict_update mtd_update (pv 2) (pa_cons (pe_disp (pps_cons pe_str (pe_lst pa_nil) (pps_cons pe_str (pe_lst pa_nil) (pps_cons pe_str (pe_lst pa_nil) (pps_cons pe_str (pe_lst pa_nil) (pps_cons pe_str pe_int (pps_cons pe_str (pe_lst pa_nil) (pps_cons pe_str (pe_lst pa_nil) (pps_cons pe_str pe_int (pps_cons pe_str (pe_lst pa_nil) pps_nil))))))))) rfl rfl (List.cons_ne_nil _ _) (Nat.le_of_ble_eq_true rfl)) pa_nil)))
      (pss_cons (ps_expr (pe_bm PySem.F.plainAttrs_dict PySem.F.slot_dict_update PySem.F.type_dict_update mtd_update (pv 2) (pa_cons (pe_disp (pps_cons pe_str (pe_lst (pa_cons pe_int (pa_cons pe_int (pa_cons pe_int (pa_cons pe_int pa_nil))))) (pps_cons pe_str (pe_lst pa_nil) pps_nil)) rfl rfl (List.cons_ne_nil _ _) (Nat.le_of_ble_eq_true rfl)) pa_nil)))
      (pss_one (ps_ret (pv 2)))))), ?_⟩
    have hlen := hp.length
    have hlenw := hw.length
    intro m0 hm0
    have sp0 := sp.own (o := .dK []) hm0
    refine ⟨_, rfl, a, rfl, ⟨_, Same.tup sp0.ext hs⟩, fun D1 hD1 => ?_⟩
    refine lc_it (walk_tup (xs := xs)) (fun i H' => ∃ K' ps, Same K0 K' ∧ Sep K' H' ((D1, .lst (ps.map V.ref)) :: (m0, .dK []) :: M) ∧ Paired (PairAt K') ps (byN (ls.take i) (xs.take i))) ⟨K0, [], Same.refl _, sp0.own hD1, .nil⟩ ?_ ?_ ?_
    · rintro i H' _ ⟨K', ps, g, sp', _⟩
      exact Same.tup (Same.tr g sp'.ext) hs
    · rintro i v H1 H2 hi ⟨K', ps, g, sp', pr⟩ ⟨rfl, e2⟩
      obtain ⟨l, hl, hL⟩ := pget hp e2
      obtain ⟨c, gg, gs, rfl, hb, _⟩ := LineAt.up (Same.tr g sp'.ext) hL
      have hpl := pr.length
      refine ⟨rfl, _, rfl, _, _, _, _, rfl, rfl, hb, rfl, _, rfl, small8 (by simp), fun t ht => ?_⟩
      have sp2 := sp'.keep (o := .tup [.str l.name, .ref c]) ht
      have g2 := sp'.newk (o := .tup [.str l.name, .ref c]) ht
      refine ⟨_, sp2.c0, ?_, _, ps ++ [t], Same.tr g g2, ?_, ?_⟩
      · rw [List.length_map]
        unfold byN at hpl
        rw [List.length_map, List.length_zip, List.length_take, List.length_take] at hpl
        exact sml (m := 20) (by have := ok.le; omega) (by decide)
      · rw [List.map_append]
        exact sp2.put0
      · unfold byN
        rw [zip_take hl e2, List.map_append]
        exact Paired.snoc (pr.mono fun _ _ z => g2 _ _ z) (upd_same (H := K') (a := t) (o := .tup [.str l.name, .ref c]))
    rintro HHD1 ⟨KKD1, psD1, gD1, spD1, prD1⟩
    rw [List.take_of_length_le (Nat.le_of_eq hlen.symm), List.take_of_length_le (Nat.le_refl _)] at prD1
    refine ⟨_, psD1, _, rfl, l_of spD1.c0, prD1.mono fun _ _ z => t_of (spD1.ext _ _ z), fun ld hld => ?_⟩
    rw [mergeK_app (acc := []) (by rw [List.nil_append, byN_keys hlen]; have z := keys_nd ok.nd; rw [List.map_map] at z; exact z), List.nil_append]
    have kD1 := spD1.tail.keep (o := .dK (byN ls xs)) hld
    have ggD1 := spD1.tail.newk (o := .dK (byN ls xs)) hld
    have atD1 : upd KKD1 ld (.dK (byN ls xs)) ld = some (.dK (byN ls xs)) := upd_same
    generalize upd KKD1 ld (.dK (byN ls xs)) = LD1 at kD1 ggD1 atD1
    have gA := Same.tr gD1 ggD1
    have ht2 := Same.tup gA ht
    have hw2 := hw.mono fun _ _ z => WorkAt.up gA z
    refine ⟨_, rfl, b, rfl, ⟨_, Same.tup kD1.ext ht2⟩, fun D2 hD2 => ?_⟩
    refine lc_it (walk_tup (xs := ys)) (fun i H' => ∃ K' ps, Same LD1 K' ∧ Sep K' H' ((D2, .lst (ps.map V.ref)) :: (m0, .dK []) :: M) ∧ Paired (PairAt K') ps (byW (ws.take i) (ys.take i))) ⟨LD1, [], Same.refl _, kD1.own hD2, .nil⟩ ?_ ?_ ?_
    · rintro i H' _ ⟨K', ps, g, sp', _⟩
      exact Same.tup (Same.tr g sp'.ext) ht2
    · rintro i v H1 H2 hi ⟨K', ps, g, sp', pr⟩ ⟨rfl, e2⟩
      obtain ⟨l, hl, hL⟩ := pget hw2 e2
      obtain ⟨c, rfl, hb⟩ := WorkAt.up (Same.tr g sp'.ext) hL
      have hpl := pr.length
      refine ⟨rfl, _, rfl, _, _, _, _, rfl, rfl, hb, rfl, _, rfl, small8 (by simp), fun t ht => ?_⟩
      have sp2 := sp'.keep (o := .tup [.str l.name, .ref c]) ht
      have g2 := sp'.newk (o := .tup [.str l.name, .ref c]) ht
      refine ⟨_, sp2.c0, ?_, _, ps ++ [t], Same.tr g g2, ?_, ?_⟩
      · rw [List.length_map]
        unfold byW at hpl
        rw [List.length_map, List.length_zip, List.length_take, List.length_take] at hpl
        exact sml (m := 20) (by have := okw.le; omega) (by decide)
      · rw [List.map_append]
        exact sp2.put0
      · unfold byW
        rw [zip_take hl e2, List.map_append]
        exact Paired.snoc (pr.mono fun _ _ z => g2 _ _ z) (upd_same (H := K') (a := t) (o := .tup [.str l.name, .ref c]))
    rintro HHD2 ⟨KKD2, psD2, gD2, spD2, prD2⟩
    rw [List.take_of_length_le (Nat.le_of_eq hlenw.symm), List.take_of_length_le (Nat.le_refl _)] at prD2
    refine ⟨_, psD2, _, rfl, l_of spD2.c0, prD2.mono fun _ _ z => t_of (spD2.ext _ _ z), fun wd hwd => ?_⟩
    rw [mergeK_app (acc := []) (by rw [List.nil_append, byW_keys hlenw]; have z := keys_nd okw.nd; rw [List.map_map] at z; exact z), List.nil_append]
    have kD2 := spD2.tail.keep (o := .dK (byW ws ys)) hwd
    have ggD2 := spD2.tail.newk (o := .dK (byW ws ys)) hwd
    have atD2 : upd KKD2 wd (.dK (byW ws ys)) wd = some (.dK (byW ws ys)) := upd_same
    generalize upd KKD2 wd (.dK (byW ws ys)) = LD2 at kD2 ggD2 atD2
    refine ⟨kD2.c0, [(.inr "lines", .ref ld), (.inr "works", .ref wd)], rfl, by simp, ?_⟩
    have s1 := kD2.put0 (o' := .dK (mergeK [] [(.inr "lines", .ref ld), (.inr "works", .ref wd)]))
    rw [mergeK_app (acc := []) (by rw [List.nil_append]; exact keys_nd (ns := ["lines", "works"]) (by decide)), List.nil_append] at s1 ⊢
    have hm1 := s1.c0
    refine ⟨_, rfl, .inr (.inr (.inl ⟨rfl, .inl ⟨_, hm1⟩⟩)), fun m1 hm1' => ?_⟩
    have s2 := s1.own (o := .dK []) hm1'
    refine ⟨Nat.zero_le _, fun sh hsh => ?_⟩
    have s3 := s2.own (o := .lst []) hsh
    refine ⟨Nat.zero_le _, fun ed hed => ?_⟩
    have s4 := s3.own (o := .lst []) hed
    refine ⟨Nat.zero_le _, fun hi hhi => ?_⟩
    have s5 := s4.own (o := .lst []) hhi
    refine ⟨Nat.zero_le _, fun up hup => ?_⟩
    have s6 := s5.own (o := .lst []) hup
    refine ⟨Nat.zero_le _, fun ca hca => ?_⟩
    have s7 := s6.own (o := .lst []) hca
    refine ⟨Nat.zero_le _, fun jo hjo => ?_⟩
    have s8 := s7.own (o := .lst []) hjo
    refine ⟨Nat.zero_le _, fun lo hlo => ?_⟩
    have s9 := s8.own (o := .lst []) hlo
    have hne1 : m0 ≠ m1 := fun q => (List.nodup_cons.mp s2.nd).1 (by rw [q]; exact List.mem_cons_self)
    refine ⟨s9.c7, [(.inr "shut", .ref sh), (.inr "edge", .ref ed), (.inr "high", .ref hi), (.inr "up", .ref up), (.inr "bar", .int 0), (.inr "calls", .ref ca), (.inr "jobs", .ref jo), (.inr "now", .int 0), (.inr "log", .ref lo)], rfl, by simp, ?_⟩
    rw [mergeK_app (acc := []) (by rw [List.nil_append]; exact keys_nd (ns := ["shut", "edge", "high", "up", "bar", "calls", "jobs", "now", "log"]) (by decide)), List.nil_append]
    have s10 := s9.put7 (y := .dK ([(.inr "shut", .ref sh), (.inr "edge", .ref ed), (.inr "high", .ref hi), (.inr "up", .ref up), (.inr "bar", .int 0), (.inr "calls", .ref ca), (.inr "jobs", .ref jo), (.inr "now", .int 0), (.inr "log", .ref lo)]))
    refine ⟨m0, m1, _, _, rfl, rfl, hne1, s10.c8, s10.c7, Nat.le_of_lt (sml (m := 20) (by simp) (by decide)), ?_⟩
    rw [mergeK_app (by exact keys_nd (ns := ["lines", "works", "shut", "edge", "high", "up", "bar", "calls", "jobs", "now", "log"]) (by decide))]
    have s11 := s10.put8 (y := .dK ([(.inr "lines", .ref ld), (.inr "works", .ref wd)] ++ [(.inr "shut", .ref sh), (.inr "edge", .ref ed), (.inr "high", .ref hi), (.inr "up", .ref up), (.inr "bar", .int 0), (.inr "calls", .ref ca), (.inr "jobs", .ref jo), (.inr "now", .int 0), (.inr "log", .ref lo)]))
    have hm2 := s11.c8
    refine ⟨_, rfl, .inr (.inr (.inl ⟨rfl, .inl ⟨_, hm2⟩⟩)), fun m2 hm2' => ?_⟩
    have s12 := s11.own (o := .dK []) hm2'
    refine ⟨small8 (by simp), fun st hst => ?_⟩
    have s13 := s12.own (o := .lst [.int 0, .int 0, .int 0, .int 0]) hst
    refine ⟨Nat.zero_le _, fun jn hjn => ?_⟩
    have s14 := s13.own (o := .lst []) hjn
    have hne2 : m0 ≠ m2 := fun q => (List.nodup_cons.mp s12.nd).1 (by
      rw [← q]
      simp)
    refine ⟨s14.c2, [(.inr "spent", .ref st), (.inr "joined", .ref jn)], rfl, by simp, ?_⟩
    rw [mergeK_app (acc := []) (by rw [List.nil_append]; exact keys_nd (ns := ["spent", "joined"]) (by decide)), List.nil_append]
    have s15 := s14.put2 (y := .dK [(.inr "spent", .ref st), (.inr "joined", .ref jn)])
    have r1 := s15.perm ((List.reverse_perm [(jn, HO.lst []), (st, HO.lst [.int 0, .int 0, .int 0, .int 0]), (m2, HO.dK [(.inr "spent", .ref st), (.inr "joined", .ref jn)]), (lo, HO.lst []), (jo, HO.lst []), (ca, HO.lst []), (up, HO.lst []), (hi, HO.lst []), (ed, HO.lst []), (sh, HO.lst []), (m1, HO.dK ([(.inr "shut", .ref sh), (.inr "edge", .ref ed), (.inr "high", .ref hi), (.inr "up", .ref up), (.inr "bar", .int 0), (.inr "calls", .ref ca), (.inr "jobs", .ref jo), (.inr "now", .int 0), (.inr "log", .ref lo)])), (m0, HO.dK ([(.inr "lines", .ref ld), (.inr "works", .ref wd)] ++ [(.inr "shut", .ref sh), (.inr "edge", .ref ed), (.inr "high", .ref hi), (.inr "up", .ref up), (.inr "bar", .int 0), (.inr "calls", .ref ca), (.inr "jobs", .ref jo), (.inr "now", .int 0), (.inr "log", .ref lo)]))]).append_right M)
    have r2 : Sep _ _ ((m0, HO.dK ([(.inr "lines", .ref ld), (.inr "works", .ref wd)] ++ [(.inr "shut", .ref sh), (.inr "edge", .ref ed), (.inr "high", .ref hi), (.inr "up", .ref up), (.inr "bar", .int 0), (.inr "calls", .ref ca), (.inr "jobs", .ref jo), (.inr "now", .int 0), (.inr "log", .ref lo)])) :: (m1, HO.dK ([(.inr "shut", .ref sh), (.inr "edge", .ref ed), (.inr "high", .ref hi), (.inr "up", .ref up), (.inr "bar", .int 0), (.inr "calls", .ref ca), (.inr "jobs", .ref jo), (.inr "now", .int 0), (.inr "log", .ref lo)])) :: (sh, HO.lst []) :: (ed, HO.lst []) :: (hi, HO.lst []) :: (up, HO.lst []) :: (ca, HO.lst []) :: (jo, HO.lst []) :: (lo, HO.lst []) :: (m2, HO.dK [(.inr "spent", .ref st), (.inr "joined", .ref jn)]) :: (st, HO.lst [.int 0, .int 0, .int 0, .int 0]) :: (jn, HO.lst []) :: M) := r1
    refine ⟨m0, m2, _, _, rfl, rfl, hne2, r2.c0, s15.c2, Nat.le_of_lt (sml (m := 20) (by simp) (by decide)), ?_⟩
    rw [mergeK_app (by exact keys_nd (ns := ["lines", "works", "shut", "edge", "high", "up", "bar", "calls", "jobs", "now", "log", "spent", "joined"]) (by decide))]
    have r3 := r2.put0 (o' := .dK (([(.inr "lines", .ref ld), (.inr "works", .ref wd)] ++ [(.inr "shut", .ref sh), (.inr "edge", .ref ed), (.inr "high", .ref hi), (.inr "up", .ref up), (.inr "bar", .int 0), (.inr "calls", .ref ca), (.inr "jobs", .ref jo), (.inr "now", .int 0), (.inr "log", .ref lo)]) ++ [(.inr "spent", .ref st), (.inr "joined", .ref jn)]))
    have r4 := r3.swap.tail
    have r5 := (r4.perm (List.perm_middle (l₁ := [(m0, HO.dK (([(.inr "lines", .ref ld), (.inr "works", .ref wd)] ++ [(.inr "shut", .ref sh), (.inr "edge", .ref ed), (.inr "high", .ref hi), (.inr "up", .ref up), (.inr "bar", .int 0), (.inr "calls", .ref ca), (.inr "jobs", .ref jo), (.inr "now", .int 0), (.inr "log", .ref lo)]) ++ [(.inr "spent", .ref st), (.inr "joined", .ref jn)])), (sh, HO.lst []), (ed, HO.lst []), (hi, HO.lst []), (up, HO.lst []), (ca, HO.lst []), (jo, HO.lst []), (lo, HO.lst [])])).symm).tail
    have gB := Same.tr gD2 ggD2
    exact ⟨_, rfl, q LD2 _ ⟨m0, ld, wd, sh, ed, hi, up, ca, jo, lo, st, jn⟩ (Same.tr gA gB) ⟨⟨⟨xs, gB _ _ atD1, hp.mono fun _ _ z => LineAt.up (Same.tr gA gB) z⟩, ⟨ys, atD2, hw2.mono fun _ _ z => WorkAt.up gB z⟩⟩, [], [], [], .nil, .nil, .nil, r5⟩⟩
    
end
end Cb

namespace Cb
open PySem PySem.Spec PyProof.Rows L2

def sp_alk (n : Nat) (K : PySem.W.Frag) : Sp := fun vs H Q _ => ∃ (v u : V) (d : PyData), vs = [v, u] ∧ Dq K H d v ∧ Dq K H d u ∧ d.depth < n ∧ wOk d ∧ ∀ H', Same H H' → Q (.bl true) H'

def doneV (b : BdD) : SD → V
  | .ring l => .str (ringR (b.rung l))
  | .quiet l => .bl (b.rung l)
  | .mask l => .bl (!b.dis l)
  | .unmask l => .bl (b.dis l)
  | .setf f => .bl (!b.fl.getD f false)
  | .clearf f => .bl (b.fl.getD f false)
  | _ => .non
def SD.deed : SD → Bool
  | .ring _ | .quiet _ | .mask _ | .unmask _ | .setf _ | .clearf _ => true
  | _ => false
def sp_law_done (K : PySem.W.Frag) : Sp := fun vs H Q _ => ∃ (A : AdB) (P : AdP) (S : SetD) (K0 : Hp) (b : BdD) (p : PrD) (si dx : Addr) (now : Int) (M : List (Addr × HO)) (t : Addr) (st : SD), vs = [.ref si, .ref t] ∧ Own K A P S K0 H b p ((si, siI K A P dx now) :: M) ∧ SqT K H t [.str st.word, st.arg] ∧ StepOk S.ls S.ws st ∧ st.deed = true ∧
  ∀ H', Own K A P S K0 H' (actB b st) p ((si, siI K A P dx now) :: M) → Q (doneV b st) H'
structure SeenAt (K : PySem.W.Frag) (H : Hp) (xs : List V) (S : SetD) (b : BdD) (p : PrD) (now : Int) : Prop where
  ex : ∃ wa ca qu fl ma hi sp cv jv, xs = [.int now, .ref wa, .ref ca, .ref qu, .ref fl, .int p.bar, .ref ma, .ref hi, .ref sp] ∧
    H wa = some (.lst (nmsV ((linesO S).filter (waitsB b)))) ∧ H ca = some (.lst cv) ∧ Paired (C3At K H) cv p.stack ∧ H qu = some (.lst jv) ∧ Paired (RowAt K H) jv p.rows ∧ H fl = some (.lst ((upF b).map V.int)) ∧
    H ma = some (.lst (nmsV ((linesO S).filter (disL b)))) ∧ H hi = some (.lst (nmsV ((linesO S).filter (highL b)))) ∧ H sp = some (.tup [.int p.c0, .int p.c1, .int p.c2, .int p.c3])
def sp_law_seen (K : PySem.W.Frag) : Sp := fun vs H Q _ => ∃ (A : AdB) (P : AdP) (S : SetD) (K0 : Hp) (b : BdD) (p : PrD) (si dx : Addr) (now : Int) (M : List (Addr × HO)), vs = [.ref si] ∧ Own K A P S K0 H b p ((si, siI K A P dx now) :: M) ∧ p.stack.length ≤ 3900 ∧ p.rows.length ≤ 3900 ∧
  ∀ K1 H' a xs, Same K0 K1 → Own K A P S K1 H' b p ((si, siI K A P dx now) :: M) → K1 a = some (.lst xs) → SeenAt K K1 xs S b p now → Q (.ref a) H'

section
variable {P : Program} {w : World} {K : PySem.W.Frag} {mg : Str → Option Value} {base : Heap}

abbrev N_law_alike : List Str := ["_law_one", "_law_due", "_law_k"]
theorem sc_law_alike : FnScope N_law_alike ["_law_one", "_law_due"] (C8.fnScope s_law_alike) := C8.fnScope_by (by decide +kernel)
theorem calA_al {fd : FuncData} {k : Nat} {sp : Sp} (T : Txt K mg) (F : FunD K "_law_alike" "_law_alike" (C8.fnArgs s_law_alike) (C8.fnBody s_law_alike) (C8.fnScope s_law_alike) [] [] (He.ga K "_law_alike") fd) (h : FnOk P w K mg base C8.CX0 k (He.ga K "_law_alike") fd ["_law_one", "_law_due"] sp) : C8.Cal P w K mg base k "_law_alike" sp [] :=
  ⟨_, fd, _, [], h, T.f__law_alike, F.kp, F.bindsN fun _ _ _ _ _ _ us hl => match us, hl with | [_, _], _ => rfl, .nil⟩
theorem al_0 {fd : FuncData} (T : Txt K mg) (F : FunD K "_law_alike" "_law_alike" (C8.fnArgs s_law_alike) (C8.fnBody s_law_alike) (C8.fnScope s_law_alike) [] [] (He.ga K "_law_alike") fd) : FnOk P w K mg base C8.CX0 1 (He.ga K "_law_alike") fd ["_law_one", "_law_due"] (sp_alk 0 K) := by
  refine C8.fn0 (fun_c8 F) sc_law_alike (fun vs H Q E h => ?_) (fun cdv A outer s H vs Q E hr h => ?_)
  · obtain ⟨_, _, _, _, _, _, h, _⟩ := h
    exact absurd h (Nat.not_lt_zero _)
  · obtain ⟨_, _, _, _, _, _, h, _⟩ := h
    exact absurd h (Nat.not_lt_zero _)
theorem al_S {fd : FuncData} {k n : Nat} (T : Txt K mg) (F : FunD K "_law_alike" "_law_alike" (C8.fnArgs s_law_alike) (C8.fnBody s_law_alike) (C8.fnScope s_law_alike) [] [] (He.ga K "_law_alike") fd) (c_al : C8.Cal P w K mg base k "_law_alike" (sp_alk n K) []) : FnOk P w K mg base C8.CX0 (k + 1) (He.ga K "_law_alike") fd ["_law_one", "_law_due"] (sp_alk (n + 1) K) := by
  refine C8.fn0 (fun_c8 F) sc_law_alike (fun vs H Q E h => ?_) (fun cdv A outer s H vs Q E hr h => ?_)
  · obtain ⟨_, _, _, rfl, _⟩ := h
    rfl
  · have nd := sc_law_alike.nd
    have hu := hu_of hr
    obtain ⟨v, u, d, rfl, hv, hu', hdn, w, q⟩ := h
    refine ⟨_, (pss_cons (ps_if (PW.pt (pw_and (pt_val (pe_callB call_isiT (by rfl) T.n_isinstance (by decide +kernel) (pa_cons (pv 0) (pa_cons (pe_tup (pa_cons (pe_bltn (v := .ty "tuple") rfl T.n_tuple (by decide +kernel) rfl) (pa_cons (pe_bltn (v := .ty "list") rfl T.n_list (by decide +kernel) rfl) pa_nil))) pa_nil)))) (pw_and1 (pt_val (pe_callB call_isiT (by rfl) T.n_isinstance (by decide +kernel) (pa_cons (pv 1) (pa_cons (pe_tup (pa_cons (pe_bltn (v := .ty "tuple") rfl T.n_tuple (by decide +kernel) rfl) (pa_cons (pe_bltn (v := .ty "list") rfl T.n_list (by decide +kernel) rfl) pa_nil))) pa_nil))))))) (pss_cons (ps_if (PW.pt (pw_or (pt_cmpR op_ne (pe_callB call_is (by rfl) T.n_isinstance (by decide +kernel) (pa_cons (pv 0) (pa_cons (pe_bltn (v := .ty "tuple") rfl T.n_tuple (by decide +kernel) rfl) pa_nil))) (pe_callB call_is (by rfl) T.n_isinstance (by decide +kernel) (pa_cons (pv 1) (pa_cons (pe_bltn (v := .ty "tuple") rfl T.n_tuple (by decide +kernel) rfl) pa_nil))) (nomark _)) (pw_or1 (pt_cmpR op_ne (pe_callB call_len_seq (by rfl) T.n_len (by decide +kernel) (pa_cons (pv 0) pa_nil)) (pe_callB call_len_seq (by rfl) T.n_len (by decide +kernel) (pa_cons (pv 1) pa_nil)) (nomark _))))) (pss_one (ps_ret pe_bl)) pss_nil)
  (pss_one (ps_ret (pe_cmpR (op_eqD (hu64_of hr)) (pe_lc (own := [("_law_k", 2)]) rfl nd (pi_range1 (by rfl) T.n_range (pa_cons (pe_callB call_len_seq (by rfl) T.n_len (by decide +kernel) (pa_cons (pv 0) pa_nil)) pa_nil)) (blkOk_by (own := [("_law_k", 2)]) (N := N_law_alike) (sc := (C8.fnScope s_law_alike)) (by decide +kernel)) (fun _ _ _ _ _ => (pg_name (i := 2) nd rfl (Or.inl rfl))) (fun _ _ _ _ _ => (pts_one (pt_not (pt_val (C8.pe_c c_al hr (Nat.le_refl _) rfl (pa_cons (pe_ix (ix_seq : IxR _ (rIx K)) (pv 0) (pv 2) (fun _ _ => rfl)) (pa_cons (pe_ix (ix_seq : IxR _ (rIx K)) (pv 1) (pv 2) (fun _ _ => rfl)) pa_nil))))))) (fun _ _ _ _ _ => (pv 2))) (pe_lst pa_nil) (nomark _))))) pss_nil)
  (pss_one (ps_ret (pe_and (pe_cmpR op_eq (pv 0) (pv 1) (nomark _)) (pe_one (pe_cmpR op_eq (pe_callB call_is (by rfl) T.n_isinstance (by decide +kernel) (pa_cons (pv 0) (pa_cons (pe_bltn (v := .ty "bool") rfl T.n_bool (by decide +kernel) rfl) pa_nil))) (pe_callB call_is (by rfl) T.n_isinstance (by decide +kernel) (pa_cons (pv 1) (pa_cons (pe_bltn (v := .ty "bool") rfl T.n_bool (by decide +kernel) rfl) pa_nil))) (nomark _))))))), ?_⟩
    cases d with
    | none =>
      rw [Dq] at hv hu'
      subst hv hu'
      refine ⟨_, rfl, small8 (by simp), fun t ht => ?_⟩
      have g1 := same_new (o := .tup [.ty "tuple", .ty "list"]) (Same.refl H) ht
      refine ⟨_, t, _, _, _, false, rfl, upd_same, .cons (.ty "tuple") (.cons (.ty "list") .nil), .base .non, kaN, false, rfl, iteF (iteF ?_)⟩
      refine ⟨_, rfl, _, rfl, rfl, true, congrArg V.bl (decide_eq_true rfl), iteT ?_⟩
      refine ⟨_, rfl, _, _, _, _, rfl, .base .non, kbN, _, rfl, _, _, _, _, rfl, .base .non, kbN, rfl, ?_⟩
      exact q _ g1
    | bool b =>
      rw [Dq] at hv hu'
      subst hv hu'
      refine ⟨_, rfl, small8 (by simp), fun t ht => ?_⟩
      have g1 := same_new (o := .tup [.ty "tuple", .ty "list"]) (Same.refl H) ht
      refine ⟨_, t, _, _, _, false, rfl, upd_same, .cons (.ty "tuple") (.cons (.ty "list") .nil), .base (.bl b), kaB, false, rfl, iteF (iteF ?_)⟩
      refine ⟨_, rfl, _, rfl, rfl, true, congrArg V.bl (decide_eq_true rfl), iteT ?_⟩
      refine ⟨_, rfl, _, _, _, _, rfl, .base (.bl b), kbB, _, rfl, _, _, _, _, rfl, .base (.bl b), kbB, rfl, ?_⟩
      exact q _ g1
    | int i =>
      rw [Dq] at hv hu'
      subst hv hu'
      refine ⟨_, rfl, small8 (by simp), fun t ht => ?_⟩
      have g1 := same_new (o := .tup [.ty "tuple", .ty "list"]) (Same.refl H) ht
      refine ⟨_, t, _, _, _, false, rfl, upd_same, .cons (.ty "tuple") (.cons (.ty "list") .nil), ty_int, kaI, false, rfl, iteF (iteF ?_)⟩
      refine ⟨_, rfl, _, rfl, rfl, true, congrArg V.bl (decide_eq_true rfl), iteT ?_⟩
      refine ⟨_, rfl, _, _, _, _, rfl, ty_int, kb2, _, rfl, _, _, _, _, rfl, ty_int, kb2, rfl, ?_⟩
      exact q _ g1
    | str x =>
      rw [Dq] at hv hu'
      subst hv hu'
      refine ⟨_, rfl, small8 (by simp), fun t ht => ?_⟩
      have g1 := same_new (o := .tup [.ty "tuple", .ty "list"]) (Same.refl H) ht
      refine ⟨_, t, _, _, _, false, rfl, upd_same, .cons (.ty "tuple") (.cons (.ty "list") .nil), ty_str, kaS, false, rfl, iteF (iteF ?_)⟩
      refine ⟨_, rfl, _, rfl, rfl, true, congrArg V.bl (decide_eq_true rfl), iteT ?_⟩
      refine ⟨_, rfl, _, _, _, _, rfl, ty_str, kbS, _, rfl, _, _, _, _, rfl, ty_str, kbS, rfl, ?_⟩
      exact q _ g1
    | list ds =>
      rw [Dq] at hv hu'
      obtain ⟨a, xs, rfl, ha, ha3⟩ := hv
      obtain ⟨b, ys, rfl, hb, hb3⟩ := hu'
      have hl1 := DqAll.len ha3
      have hl2 := DqAll.len hb3
      rw [PyData.depth] at hdn
      rw [wOk] at w
      have tA : ∀ H1, Same H H1 → TyX K H1 (.ref a) (.type "list") := fun H1 g => .base (.lst (g _ _ ha))
      have tB : ∀ H1, Same H H1 → TyX K H1 (.ref b) (.type "list") := fun H1 g => .base (.lst (g _ _ hb))
      refine ⟨_, rfl, small8 (by simp), fun t ht => ?_⟩
      have g1 := same_new (o := .tup [.ty "tuple", .ty "list"]) (Same.refl H) ht
      refine ⟨_, t, _, _, _, true, rfl, upd_same, .cons (.ty "tuple") (.cons (.ty "list") .nil), tA _ g1, kaL, true, rfl, iteT ?_⟩
      refine ⟨_, rfl, small8 (by simp), fun t2 ht2 => ?_⟩
      have g2 := Same.tr g1 (same_new (o := .tup [.ty "tuple", .ty "list"]) (Same.refl _) ht2)
      refine ⟨_, t2, _, _, _, true, rfl, upd_same, .cons (.ty "tuple") (.cons (.ty "list") .nil), tB _ g2, kaL, true, rfl, iteT ?_⟩
      generalize hG : upd (upd H t (.tup [.ty "tuple", .ty "list"])) t2 (.tup [.ty "tuple", .ty "list"]) = H1 at g2
      refine ⟨_, rfl, _, _, _, _, rfl, tA _ g2, kbL, _, rfl, _, _, _, _, rfl, tB _ g2, kbL, rfl, false, rfl, iteF ?_⟩
      refine ⟨_, rfl, _, _, rfl, .inl (l_of (g2 _ _ ha)), _, rfl, _, _, rfl, .inl (l_of (g2 _ _ hb)), rfl, false, congrArg V.bl (by simp [hl1, hl2]), iteF ?_⟩
      refine ⟨_, rfl, _, _, rfl, .inl (l_of (g2 _ _ ha)), _, rfl, (by omega), (by omega), fun D hD => ?_⟩
      refine lc_it (walk_range (lo := 0) (n := ((xs.length : Int)).toNat)) (fun _ H' => Sep H1 H' [(D, .lst [])]) (Sep.nil.own hD) (fun _ _ _ _ => trivial) ?_ ?_
      · rintro i v H2 H3 hi sp ⟨rfl, rfl⟩
        have gq := Same.tr g2 sp.ext
        have hiv : i < xs.length := by omega
        have hiu : i < ys.length := by omega
        have hx := List.getElem?_eq_getElem hiv
        have hy := List.getElem?_eq_getElem hiu
        obtain ⟨e, he, hxe⟩ := DqAll.get ha3 hx
        obtain ⟨e', he', hye⟩ := DqAll.get hb3 hy
        obtain rfl : e = e' := Option.some.inj (he.symm.trans he')
        have hem := List.mem_of_getElem? he
        have hz : ((0 : Int) + (i : Nat)) = (i : Nat) := by omega
        have ax : atI xs ((0 : Int) + (i : Nat)) = some xs[i] := by rw [hz]; exact atIn hx
        have ay : atI ys ((0 : Int) + (i : Nat)) = some ys[i] := by rw [hz]; exact atIn hy
        have hdp := depth_le_all hem
        refine ⟨rfl, _, rfl, _, rfl, .inl ⟨_, _, _, _, rfl, rfl, l_of (gq _ _ ha), ax, _, rfl, _, rfl, .inl ⟨_, _, _, _, rfl, rfl, l_of (gq _ _ hb), ay, _, _, e, rfl, Dq.up gq _ _ hxe, Dq.up gq _ _ hye, by omega, wOkAll.mem w.2 hem, fun H4 g4 => ⟨true, rfl, iteF (sp.grow g4)⟩⟩⟩⟩
      rintro H2 sp
      refine ⟨Nat.zero_le _, fun q2 hq2 => ?_⟩
      have sp2 := sp.drop (o := .lst []) hq2
      refine ⟨.list [], .list [], .lst (l_of sp2.c0) .nil, .lst (l_of upd_same) .nil, by decide +kernel, by decide +kernel, ?_⟩
      rw [show PyData.eqv (.list []) (.list []) = true by simp [PyData.eqv, PyData.eqvAll]]
      exact q _ (Same.tr g2 sp2.ext)
    | tuple ds =>
      rw [Dq] at hv hu'
      obtain ⟨a, xs, rfl, ha, ha3⟩ := hv
      obtain ⟨b, ys, rfl, hb, hb3⟩ := hu'
      have hl1 := DqAll.len ha3
      have hl2 := DqAll.len hb3
      rw [PyData.depth] at hdn
      rw [wOk] at w
      have tA : ∀ H1, Same H H1 → TyX K H1 (.ref a) (.type "tuple") := fun H1 g => ty_tup (Same.tup g ha)
      have tB : ∀ H1, Same H H1 → TyX K H1 (.ref b) (.type "tuple") := fun H1 g => ty_tup (Same.tup g hb)
      refine ⟨_, rfl, small8 (by simp), fun t ht => ?_⟩
      have g1 := same_new (o := .tup [.ty "tuple", .ty "list"]) (Same.refl H) ht
      refine ⟨_, t, _, _, _, true, rfl, upd_same, .cons (.ty "tuple") (.cons (.ty "list") .nil), tA _ g1, kaT, true, rfl, iteT ?_⟩
      refine ⟨_, rfl, small8 (by simp), fun t2 ht2 => ?_⟩
      have g2 := Same.tr g1 (same_new (o := .tup [.ty "tuple", .ty "list"]) (Same.refl _) ht2)
      refine ⟨_, t2, _, _, _, true, rfl, upd_same, .cons (.ty "tuple") (.cons (.ty "list") .nil), tB _ g2, kaT, true, rfl, iteT ?_⟩
      generalize hG : upd (upd H t (.tup [.ty "tuple", .ty "list"])) t2 (.tup [.ty "tuple", .ty "list"]) = H1 at g2
      refine ⟨_, rfl, _, _, _, _, rfl, tA _ g2, kb4, _, rfl, _, _, _, _, rfl, tB _ g2, kb4, rfl, false, rfl, iteF ?_⟩
      refine ⟨_, rfl, _, _, rfl, .inr (Same.tup g2 ha), _, rfl, _, _, rfl, .inr (Same.tup g2 hb), rfl, false, congrArg V.bl (by simp [hl1, hl2]), iteF ?_⟩
      refine ⟨_, rfl, _, _, rfl, .inr (Same.tup g2 ha), _, rfl, (by omega), (by omega), fun D hD => ?_⟩
      refine lc_it (walk_range (lo := 0) (n := ((xs.length : Int)).toNat)) (fun _ H' => Sep H1 H' [(D, .lst [])]) (Sep.nil.own hD) (fun _ _ _ _ => trivial) ?_ ?_
      · rintro i v H2 H3 hi sp ⟨rfl, rfl⟩
        have gq := Same.tr g2 sp.ext
        have hiv : i < xs.length := by omega
        have hiu : i < ys.length := by omega
        have hx := List.getElem?_eq_getElem hiv
        have hy := List.getElem?_eq_getElem hiu
        obtain ⟨e, he, hxe⟩ := DqAll.get ha3 hx
        obtain ⟨e', he', hye⟩ := DqAll.get hb3 hy
        obtain rfl : e = e' := Option.some.inj (he.symm.trans he')
        have hem := List.mem_of_getElem? he
        have hz : ((0 : Int) + (i : Nat)) = (i : Nat) := by omega
        have ax : atI xs ((0 : Int) + (i : Nat)) = some xs[i] := by rw [hz]; exact atIn hx
        have ay : atI ys ((0 : Int) + (i : Nat)) = some ys[i] := by rw [hz]; exact atIn hy
        have hdp := depth_le_all hem
        refine ⟨rfl, _, rfl, _, rfl, .inr (.inl ⟨_, _, _, _, rfl, rfl, Same.tup gq ha, ax, _, rfl, _, rfl, .inr (.inl ⟨_, _, _, _, rfl, rfl, Same.tup gq hb, ay, _, _, e, rfl, Dq.up gq _ _ hxe, Dq.up gq _ _ hye, by omega, wOkAll.mem w.2 hem, fun H4 g4 => ⟨true, rfl, iteF (sp.grow g4)⟩⟩)⟩)⟩
      rintro H2 sp
      refine ⟨Nat.zero_le _, fun q2 hq2 => ?_⟩
      have sp2 := sp.drop (o := .lst []) hq2
      refine ⟨.list [], .list [], .lst (l_of sp2.c0) .nil, .lst (l_of upd_same) .nil, by decide +kernel, by decide +kernel, ?_⟩
      rw [show PyData.eqv (.list []) (.list []) = true by simp [PyData.eqv, PyData.eqvAll]]
      exact q _ (Same.tr g2 sp2.ext)
    | dict kvs =>
      rw [Dq] at hv
      exact hv.elim
theorem al_all {fd : FuncData} (T : Txt K mg) (F : FunD K "_law_alike" "_law_alike" (C8.fnArgs s_law_alike) (C8.fnBody s_law_alike) (C8.fnScope s_law_alike) [] [] (He.ga K "_law_alike") fd) : ∀ n, FnOk P w K mg base C8.CX0 (n + 1) (He.ga K "_law_alike") fd ["_law_one", "_law_due"] (sp_alk n K)
  | 0 => al_0 T F
  | n + 1 => al_S T F (calA_al T F (al_all T F n))
theorem ok_law_alike {fd : FuncData} (T : Txt K mg) (F : FunD K "_law_alike" "_law_alike" (C8.fnArgs s_law_alike) (C8.fnBody s_law_alike) (C8.fnScope s_law_alike) [] [] (He.ga K "_law_alike") fd) :
    C8.Cal P w K mg base 5 "_law_alike" (sp_alk 4 K) [] := by
  exact calA_al T F (al_all T F 4)
abbrev N_law_done : List Str := ["_law_single", "_law_deed_here", "_law_word", "_law_value"]
theorem sc_law_done : FnScope N_law_done ["_law_single", "_law_deed_here"] (C8.fnScope s_law_done) := C8.fnScope_by (by decide +kernel)
theorem ok_law_done {fd : FuncData} (T : Txt K mg) (F : FunD K "_law_done" "_law_done" (C8.fnArgs s_law_done) (C8.fnBody s_law_done) (C8.fnScope s_law_done) [] [] (He.ga K "_law_done") fd) (c_ring : C8.Met P w K mg base 4 (aC "Single" K) "ring" (sp_Single_ring K) []) (c_quiet : C8.Met P w K mg base 6 (aC "Single" K) "quiet" (sp_Single_quiet K) []) (c_mask : C8.Met P w K mg base 4 (aC "Single" K) "mask" (sp_Single_mask K) []) (c_unmask : C8.Met P w K mg base 4 (aC "Single" K) "unmask" (sp_Single_unmask K) []) (c_set_flag : C8.Met P w K mg base 4 (aC "Single" K) "set_flag" (sp_Single_set_flag K) []) (c_clear_flag : C8.Met P w K mg base 4 (aC "Single" K) "clear_flag" (sp_Single_clear_flag K) []) :
    C8.Cal P w K mg base 7 "_law_done" (sp_law_done K) [] := by
  refine C8.cal0 (ds := []) ⟨fun_c8 F, T.f__law_done, F.kp⟩ (F.bindsN fun _ _ _ _ _ _ us hl => match us, hl with | [_, _], _ => rfl) .nil sc_law_done (fun vs H Q E h => ?_) (fun cdv A outer s H vs Q E hr h => ?_)
  · obtain ⟨_, _, _, _, _, _, _, _, _, _, _, _, rfl, _⟩ := h
    rfl
  · have nd := sc_law_done.nd
    have hu := hu_of hr
    obtain ⟨A, P, S, K0, b, p, si, dx, now, M, t, st, rfl, ow, ht, ok, dd, q⟩ := h
    refine ⟨_, (pss_cons (ps_asg (pv 1) (pg_tup rfl (pgs_cons (pg_name (i := 2) nd rfl (Or.inl rfl)) (pgs_cons (pg_name (i := 3) nd rfl (Or.inl rfl)) pgs_nil))))
      (pss_cons (ps_if (pt_cmpR op_eq (pv 2) pe_str (nomark _)) (pss_one (ps_ret (C8.pe_mt c_ring hr (by decide) (pv 0) (pa_cons (pv 3) pa_nil)))) pss_nil)
      (pss_cons (ps_if (pt_cmpR op_eq (pv 2) pe_str (nomark _)) (pss_one (ps_ret (C8.pe_mt c_quiet hr (by decide) (pv 0) (pa_cons (pv 3) pa_nil)))) pss_nil)
      (pss_cons (ps_if (pt_cmpR op_in_seq (pv 2) (pe_tup (pa_cons pe_str (pa_cons pe_str pa_nil))) (by rfl)) (pss_one (ps_ret (pe_ifExp (pt_cmpR op_eq (pv 2) pe_str (nomark _)) (C8.pe_mt c_mask hr (by decide) (pv 0) (pa_cons (pv 3) pa_nil)) (C8.pe_mt c_unmask hr (by decide) (pv 0) (pa_cons (pv 3) pa_nil))))) pss_nil)
      (pss_one (ps_ret (pe_ifExp (pt_cmpR op_eq (pv 2) pe_str (nomark _)) (C8.pe_mt c_set_flag hr (by decide) (pv 0) (pa_cons (pv 3) pa_nil)) (C8.pe_mt c_clear_flag hr (by decide) (pv 0) (pa_cons (pv 3) pa_nil))))))))), ?_⟩
    refine ⟨_, rfl, _, _, rfl, ht, rfl, _, _, rfl, _, _, rfl, rfl, ?_⟩
    cases st with
    | ring n =>
      obtain ⟨l, hl, rfl⟩ := ok
      exact ⟨_, rfl, rfl, true, rfl, iteT ⟨_, rfl, si, dx, _, rfl, ow.fr, rfl, _, rfl, A, P, S, K0, b, p, si, dx, now, M, l, rfl, ow, hl, q⟩⟩
    | quiet n =>
      obtain ⟨l, hl, rfl, hv⟩ := ok
      exact ⟨_, rfl, rfl, false, rfl, iteF ⟨_, rfl, rfl, true, rfl, iteT ⟨_, rfl, si, dx, _, rfl, ow.fr, rfl, _, rfl, A, P, S, K0, b, p, si, dx, now, M, l, rfl, ow, hl, hv, q⟩⟩⟩
    | mask n =>
      obtain ⟨l, hl, rfl⟩ := ok
      refine ⟨_, rfl, rfl, false, rfl, iteF ⟨_, rfl, rfl, false, rfl, iteF ?_⟩⟩
      refine ⟨_, rfl, small8 (by simp), fun t2 ht2 => ?_⟩
      have g2 := same_new (o := .tup [.str "mask", .str "unmask"]) (Same.refl H) ht2
      have ow := ow.grow g2
      refine ⟨_, _, rfl, .inr (t_of upd_same), rfl, rfl, true, rfl, iteT ?_⟩
      exact ⟨_, rfl, rfl, true, rfl, iteT ⟨_, rfl, si, dx, _, rfl, ow.fr, rfl, _, rfl, A, P, S, K0, b, p, si, dx, now, M, l, rfl, ow, hl, q⟩⟩
    | unmask n =>
      obtain ⟨l, hl, rfl⟩ := ok
      refine ⟨_, rfl, rfl, false, rfl, iteF ⟨_, rfl, rfl, false, rfl, iteF ?_⟩⟩
      refine ⟨_, rfl, small8 (by simp), fun t2 ht2 => ?_⟩
      have g2 := same_new (o := .tup [.str "mask", .str "unmask"]) (Same.refl H) ht2
      have ow := ow.grow g2
      refine ⟨_, _, rfl, .inr (t_of upd_same), rfl, rfl, true, rfl, iteT ?_⟩
      exact ⟨_, rfl, rfl, false, rfl, iteF ⟨_, rfl, si, dx, _, rfl, ow.fr, rfl, _, rfl, A, P, S, K0, b, p, si, dx, now, M, l, rfl, ow, hl, q⟩⟩
    | setf f =>
      refine ⟨_, rfl, rfl, false, rfl, iteF ⟨_, rfl, rfl, false, rfl, iteF ?_⟩⟩
      refine ⟨_, rfl, small8 (by simp), fun t2 ht2 => ?_⟩
      have g2 := same_new (o := .tup [.str "mask", .str "unmask"]) (Same.refl H) ht2
      have ow := ow.grow g2
      refine ⟨_, _, rfl, .inr (t_of upd_same), rfl, rfl, false, rfl, iteF ?_⟩
      exact ⟨_, rfl, rfl, true, rfl, iteT ⟨_, rfl, si, dx, _, rfl, ow.fr, rfl, _, rfl, A, P, S, K0, b, p, si, dx, now, M, f, rfl, ow, ok, q⟩⟩
    | clearf f =>
      refine ⟨_, rfl, rfl, false, rfl, iteF ⟨_, rfl, rfl, false, rfl, iteF ?_⟩⟩
      refine ⟨_, rfl, small8 (by simp), fun t2 ht2 => ?_⟩
      have g2 := same_new (o := .tup [.str "mask", .str "unmask"]) (Same.refl H) ht2
      have ow := ow.grow g2
      refine ⟨_, _, rfl, .inr (t_of upd_same), rfl, rfl, false, rfl, iteF ?_⟩
      exact ⟨_, rfl, rfl, false, rfl, iteF ⟨_, rfl, si, dx, _, rfl, ow.fr, rfl, _, rfl, A, P, S, K0, b, p, si, dx, now, M, f, rfl, ow, ok, q⟩⟩
    | run n => cases dd
    | await n => cases dd
    | bar n => cases dd
    | later n => cases dd
abbrev N_law_seen : List Str := ["_law_single", "_law_found"]
theorem sc_law_seen : FnScope N_law_seen ["_law_single"] (C8.fnScope s_law_seen) := C8.fnScope_by (by decide +kernel)
theorem ok_law_seen {fd : FuncData} (T : Txt K mg) (F : FunD K "_law_seen" "_law_seen" (C8.fnArgs s_law_seen) (C8.fnBody s_law_seen) (C8.fnScope s_law_seen) [] [] (He.ga K "_law_seen") fd) (c_now : FnP P w K mg base 1 (prA "Single" "now" K) (sp_Single_now K)) (c_waiting : FnP P w K mg base 7 (prA "Single" "waiting" K) (sp_Single_waiting K)) (c_calls : FnP P w K mg base 2 (prA "Single" "calls" K) (sp_Single_calls K)) (c_queue : FnP P w K mg base 3 (prA "Single" "queue" K) (sp_Single_queue K)) (c_flags_up : FnP P w K mg base 2 (prA "Single" "flags_up" K) (sp_Single_flags_up K)) (c_bar : FnP P w K mg base 2 (prA "Single" "bar" K) (sp_Single_bar K)) (c_masked : FnP P w K mg base 4 (prA "Single" "masked" K) (sp_Single_masked K)) (c_highs : FnP P w K mg base 7 (prA "Single" "highs" K) (sp_Single_highs K)) (c_spent : FnP P w K mg base 2 (prA "Single" "spent" K) (sp_Single_spent K)) :
    C8.Cal P w K mg base 9 "_law_seen" (sp_law_seen K) [] := by
  refine C8.cal0 (ds := []) ⟨fun_c8 F, T.f__law_seen, F.kp⟩ (F.bindsN fun _ _ _ _ _ _ us hl => match us, hl with | [_], _ => rfl) .nil sc_law_seen (fun vs H Q E h => ?_) (fun cdv A outer s H vs Q E hr h => ?_)
  · obtain ⟨_, _, _, _, _, _, _, _, _, _, rfl, _⟩ := h
    rfl
  · have nd := sc_law_seen.nd
    have hu := hu_of hr
    obtain ⟨A, P, S, K0, b, p, si, dx, now, M, rfl, ow, hs1, hr1, q⟩ := h
    obtain ⟨pp_now, hp_now⟩ := T.p_Single_now
    obtain ⟨pp_waiting, hp_waiting⟩ := T.p_Single_waiting
    obtain ⟨pp_calls, hp_calls⟩ := T.p_Single_calls
    obtain ⟨pp_queue, hp_queue⟩ := T.p_Single_queue
    obtain ⟨pp_flags_up, hp_flags_up⟩ := T.p_Single_flags_up
    obtain ⟨pp_bar, hp_bar⟩ := T.p_Single_bar
    obtain ⟨pp_masked, hp_masked⟩ := T.p_Single_masked
    obtain ⟨pp_highs, hp_highs⟩ := T.p_Single_highs
    obtain ⟨pp_spent, hp_spent⟩ := T.p_Single_spent
    refine ⟨_, (pss_cons (ps_set (i := 1) nd rfl (Or.inl rfl) (pe_lst (pa_cons (C_prop hp_now T.cl_Single c_now hr (by decide) (pv 0)) (pa_cons (C_prop hp_waiting T.cl_Single c_waiting hr (by decide) (pv 0)) (pa_cons (C_prop hp_calls T.cl_Single c_calls hr (by decide) (pv 0)) (pa_cons (C_prop hp_queue T.cl_Single c_queue hr (by decide) (pv 0)) (pa_cons (C_prop hp_flags_up T.cl_Single c_flags_up hr (by decide) (pv 0)) (pa_cons (C_prop hp_bar T.cl_Single c_bar hr (by decide) (pv 0)) pa_nil))))))))
      (pss_one (ps_ret (pe_op op_cat (pv 1) (pe_lst (pa_cons (C_prop hp_masked T.cl_Single c_masked hr (by decide) (pv 0)) (pa_cons (C_prop hp_highs T.cl_Single c_highs hr (by decide) (pv 0)) (pa_cons (C_prop hp_spent T.cl_Single c_spent hr (by decide) (pv 0)) pa_nil)))))))), ?_⟩
    refine ⟨_, rfl, si, dx, _, rfl, ow.fr, A, P, S, K0, b, p, si, dx, now, M, rfl, ow, ?_⟩
    refine ⟨_, rfl, si, dx, _, rfl, ow.fr, A, P, S, K0, b, p, si, dx, now, M, rfl, ow, fun K1 H1 wa wav g1 ow1 hwa ewa => ?_⟩
    subst ewa
    refine ⟨_, rfl, si, dx, _, rfl, ow1.fr, A, P, S, K1, b, p, si, dx, now, M, rfl, ow1, hs1, fun K2 H2 ca cav g2 ow2 hca pca => ?_⟩
    refine ⟨_, rfl, si, dx, _, rfl, ow2.fr, A, P, S, K2, b, p, si, dx, now, M, rfl, ow2, hr1, fun K3 H3 qu quv g3 ow3 hqu pqu => ?_⟩
    refine ⟨_, rfl, si, dx, _, rfl, ow3.fr, A, P, S, K3, b, p, si, dx, now, M, rfl, ow3, fun K4 H4 fl flv g4 ow4 hfl efl => ?_⟩
    subst efl
    refine ⟨_, rfl, si, dx, _, rfl, ow4.fr, A, P, S, K4, b, p, si, dx, now, M, rfl, ow4, ?_⟩
    refine ⟨small8 (by simp), fun f1 hf1 => ?_⟩
    have kk := ow4.keepM (x := .lst [.int now, .ref wa, .ref ca, .ref qu, .ref fl, .int p.bar]) hf1
    have hf1' : upd K4 f1 (.lst [.int now, .ref wa, .ref ca, .ref qu, .ref fl, .int p.bar]) f1 = some (.lst [.int now, .ref wa, .ref ca, .ref qu, .ref fl, .int p.bar]) := upd_same
    generalize upd K4 f1 (.lst [.int now, .ref wa, .ref ca, .ref qu, .ref fl, .int p.bar]) = K5 at kk hf1'
    obtain ⟨ow5, g5⟩ := kk
    refine ⟨_, rfl, ?_⟩
    refine ⟨_, rfl, si, dx, _, rfl, ow5.fr, A, P, S, K5, b, p, si, dx, now, M, rfl, ow5, fun K6 H6 ma mav g6 ow6 hma ema => ?_⟩
    subst ema
    refine ⟨_, rfl, si, dx, _, rfl, ow6.fr, A, P, S, K6, b, p, si, dx, now, M, rfl, ow6, fun K7 H7 hi hiv g7 ow7 hhi ehi => ?_⟩
    subst ehi
    refine ⟨_, rfl, si, dx, _, rfl, ow7.fr, A, P, S, K7, b, p, si, dx, now, M, rfl, ow7, fun K8 H8 st g8 ow8 hst => ?_⟩
    refine ⟨small8 (by simp), fun f2 hf2 => ?_⟩
    have ow9 := ow8.dropM (x := .lst [.ref ma, .ref hi, .ref st]) hf2
    have g58 := Same.tr g6 (Same.tr g7 g8)
    refine ⟨f1, f2, _, _, rfl, rfl, ow9.same _ _ (g58 _ _ hf1'), upd_same, sm (m := 20) (by simp), fun f3 hf3 => ?_⟩
    have kk := ow9.keepM (x := .lst ([.int now, .ref wa, .ref ca, .ref qu, .ref fl, .int p.bar] ++ [.ref ma, .ref hi, .ref st])) hf3
    have g78 := Same.tr g7 g8
    have gz := kk.2
    have g9 := Same.tr g8 gz
    have a6 := Same.tr g7 g9
    have a5 := Same.tr g6 a6
    have a4 := Same.tr g5 a5
    have a3 := Same.tr g4 a4
    have a2 := Same.tr g3 a3
    have a1 := Same.tr g2 a2
    exact q _ _ f3 _ (Same.tr g1 a1) kk.1 upd_same ⟨wa, ca, qu, fl, ma, hi, st, cav, quv, rfl, a1 _ _ hwa, a2 _ _ hca, pca.mono fun _ _ z => C3At.up a2 z, a3 _ _ hqu, pqu.mono fun _ _ z => RowAt.up a3 z, a4 _ _ hfl, a6 _ _ hma, g9 _ _ hhi, gz _ _ hst⟩
end
end Cb

namespace Cb
open PySem PySem.Spec PyProof.Rows L2
theorem mg_lines {H : Hp} {A : AdM} {d : MdD} (h : H A.m = some (.dK (mdK A d))) : DGet H A.m (.str "lines") (some (.ref A.ld)) := DGet.k (k := .inr "lines") h
theorem mg_works {H : Hp} {A : AdM} {d : MdD} (h : H A.m = some (.dK (mdK A d))) : DGet H A.m (.str "works") (some (.ref A.wd)) := DGet.k (k := .inr "works") h
theorem mg_shut {H : Hp} {A : AdM} {d : MdD} (h : H A.m = some (.dK (mdK A d))) : DGet H A.m (.str "shut") (some (.ref A.sh)) := DGet.k (k := .inr "shut") h
theorem mg_edge {H : Hp} {A : AdM} {d : MdD} (h : H A.m = some (.dK (mdK A d))) : DGet H A.m (.str "edge") (some (.ref A.ed)) := DGet.k (k := .inr "edge") h
theorem mg_high {H : Hp} {A : AdM} {d : MdD} (h : H A.m = some (.dK (mdK A d))) : DGet H A.m (.str "high") (some (.ref A.hi)) := DGet.k (k := .inr "high") h
theorem mg_up {H : Hp} {A : AdM} {d : MdD} (h : H A.m = some (.dK (mdK A d))) : DGet H A.m (.str "up") (some (.ref A.up)) := DGet.k (k := .inr "up") h
theorem mg_calls {H : Hp} {A : AdM} {d : MdD} (h : H A.m = some (.dK (mdK A d))) : DGet H A.m (.str "calls") (some (.ref A.ca)) := DGet.k (k := .inr "calls") h
theorem mg_jobs {H : Hp} {A : AdM} {d : MdD} (h : H A.m = some (.dK (mdK A d))) : DGet H A.m (.str "jobs") (some (.ref A.jo)) := DGet.k (k := .inr "jobs") h
theorem mg_log {H : Hp} {A : AdM} {d : MdD} (h : H A.m = some (.dK (mdK A d))) : DGet H A.m (.str "log") (some (.ref A.lo)) := DGet.k (k := .inr "log") h
theorem mg_spent {H : Hp} {A : AdM} {d : MdD} (h : H A.m = some (.dK (mdK A d))) : DGet H A.m (.str "spent") (some (.ref A.sp)) := DGet.k (k := .inr "spent") h
theorem mg_joined {H : Hp} {A : AdM} {d : MdD} (h : H A.m = some (.dK (mdK A d))) : DGet H A.m (.str "joined") (some (.ref A.jn)) := DGet.k (k := .inr "joined") h
theorem mg_bar {H : Hp} {A : AdM} {d : MdD} (h : H A.m = some (.dK (mdK A d))) : DGet H A.m (.str "bar") (some (.int d.bar)) := DGet.k (k := .inr "bar") h
theorem mg_now {H : Hp} {A : AdM} {d : MdD} (h : H A.m = some (.dK (mdK A d))) : DGet H A.m (.str "now") (some (.int d.now)) := DGet.k (k := .inr "now") h
def underM (d : MdD) : List Str := d.calls.map (·.line.name)
def waitsM (d : MdD) (n : Str) : Bool := decide (n ∈ d.edge) || (decide (n ∈ d.high) && !decide (n ∈ underM d))
theorem OwnM.grow {K : PySem.W.Frag} {A : AdM} {ls : List LineD} {ws : List WorkD} {K0 H H' : Hp} {d : MdD} {M : List (Addr × HO)} (h : OwnM K A ls ws K0 H d M) (g : Same H H') : OwnM K A ls ws K0 H' d M := by
  obtain ⟨cv, jv, gv, h1, h2, h3, h4⟩ := h.ex
  exact ⟨h.tb, cv, jv, gv, h1, h2, h3, h4.grow g⟩
theorem in_strs {n : Str} {l : List Str} : inV (.str n) (l.map V.str) = decide (n ∈ l) := by
  by_cases h : n ∈ l
  · rw [inV_strs h, decide_eq_true h]
  · rw [inV_not h, decide_eq_false h]
theorem strs_fl (l : List Str) : (l.map V.str).all flatV = true := by simp [flatV]
structure SeeM (K : PySem.W.Frag) (H : Hp) (A : AdM) (d : MdD) : Prop where
  m : H A.m = some (.dK (mdK A d))
  sh : H A.sh = some (.lst (d.shut.map V.str))
  ed : H A.ed = some (.lst (d.edge.map V.str))
  hi : H A.hi = some (.lst (d.high.map V.str))
  ca : ∃ cv, H A.ca = some (.lst cv) ∧ Paired (CallAt K H) cv d.calls
theorem seeM_of {K : PySem.W.Frag} {A : AdM} {d : MdD} {K0 H : Hp} {cv jv gv : List V} {L : List (Addr × HO)} (sp : Sep K0 H L) (s : ∀ e ∈ layM A d cv jv gv [], e ∈ L) (h1 : Paired (CallAt K K0) cv d.calls) : SeeM K H A d :=
  ⟨sp.cs.mem _ (s (A.m, .dK (mdK A d)) (by simp [layM])), sp.cs.mem _ (s (A.sh, .lst (d.shut.map V.str)) (by simp [layM])), sp.cs.mem _ (s (A.ed, .lst (d.edge.map V.str)) (by simp [layM])), sp.cs.mem _ (s (A.hi, .lst (d.high.map V.str)) (by simp [layM])), cv, sp.cs.mem _ (s (A.ca, .lst cv) (by simp [layM])), h1.mono fun _ _ z => CallAt.up sp.ext z⟩
theorem layM_sub {A : AdM} {d : MdD} {cv jv gv : List V} {M : List (Addr × HO)} : ∀ e ∈ layM A d cv jv gv [], e ∈ layM A d cv jv gv M := by
  intro e m
  simp only [layM, List.mem_cons, List.not_mem_nil, or_false] at m ⊢
  rcases m with m | m | m | m | m | m | m | m | m | m <;> simp [m]
theorem OwnM.see {K : PySem.W.Frag} {A : AdM} {ls : List LineD} {ws : List WorkD} {K0 H : Hp} {d : MdD} {M : List (Addr × HO)} (h : OwnM K A ls ws K0 H d M) : SeeM K H A d := by
  obtain ⟨cv, jv, gv, h1, h2, h3, h4⟩ := h.ex
  exact seeM_of h4 layM_sub h1
theorem SeeM.grow {K : PySem.W.Frag} {H H' : Hp} {A : AdM} {d : MdD} (h : SeeM K H A d) (g : Same H H') : SeeM K H' A d :=
  ⟨g _ _ h.m, g _ _ h.sh, g _ _ h.ed, g _ _ h.hi, h.ca.elim fun cv z => ⟨cv, g _ _ z.1, z.2.mono fun _ _ y => CallAt.up g y⟩⟩
def sp_law_under (K : PySem.W.Frag) : Sp := fun vs H Q _ => ∃ (A : AdM) (d : MdD), vs = [.ref A.m] ∧ SeeM K H A d ∧ d.calls.length ≤ 3900 ∧
  ∀ p H', Same H H' → H p = none → H' p = some (.lst ((underM d).map V.str)) → Q (.ref p) H'
def sp_law_waits (K : PySem.W.Frag) : Sp := fun vs H Q _ => ∃ (A : AdM) (d : MdD) (n : Str), vs = [.ref A.m, .str n] ∧ SeeM K H A d ∧ d.calls.length ≤ 3900 ∧
  ∀ H', Same H H' → Q (.bl (waitsM d n)) H'
def sp_law_now_step (K : PySem.W.Frag) : Sp := fun vs H Q _ => ∃ (A : AdM) (ls : List LineD) (ws : List WorkD) (K0 : Hp) (d : MdD) (M : List (Addr × HO)) (r : List CallD) (c : CallD) (st : SD), vs = [.ref A.m] ∧ OwnM K A ls ws K0 H d M ∧ LsOk ls ∧ d.calls = r ++ [c] ∧ c.line ∈ ls ∧ stepOf c = some st ∧
  ∀ v, StepAt K K0 v st → Q v H

section
variable {P : Program} {w : World} {K : PySem.W.Frag} {mg : Str → Option Value} {base : Heap}

end
end Cb

namespace Cb
open PySem PySem.Spec PyProof.Rows L2

def rmS (l : List Str) (n : Str) : List Str := l.filter fun x => !decide (x = n)
def rmI (l : List Int) (n : Int) : List Int := l.filter fun x => !decide (x = n)
def lvlOf (ls : List LineD) (n : Str) : Bool := ((ls.find? fun l => decide (l.name = n)).map (·.lvl)).getD false
def doesM (ls : List LineD) (d : MdD) : SD → MdD × Bool
  | .bar x => ({ d with bar := x }, true)
  | .later w => (if (w, 0) ∈ d.jobs then d else { d with jobs := d.jobs ++ [(w, 0)] }, true)
  | .ring n => if lvlOf ls n = true then ({ d with high := rmS d.high n ++ [n], joined := if n ∈ d.high then d.joined ++ [n] else d.joined }, !decide (n ∈ d.high))
      else ({ d with edge := rmS d.edge n ++ [n], joined := if n ∈ d.edge then d.joined ++ [n] else d.joined }, !decide (n ∈ d.edge))
  | .quiet n => ({ d with high := rmS d.high n }, decide (n ∈ d.high))
  | .mask n => ({ d with shut := rmS d.shut n ++ [n] }, !decide (n ∈ d.shut))
  | .unmask n => ({ d with shut := rmS d.shut n }, decide (n ∈ d.shut))
  | .setf f => ({ d with up := rmI d.up f ++ [(f : Int)] }, !decide ((f : Int) ∈ d.up))
  | .clearf f => ({ d with up := rmI d.up f }, decide ((f : Int) ∈ d.up))
  | _ => (d, true)
theorem smB {n : Nat} (h : n ≤ 100000) : n < sizeLine := by
  rw [sizeLine_eq]
  omega
structure SzM (d : MdD) : Prop where
  sh : d.shut.length ≤ 3900
  ed : d.edge.length ≤ 3900
  hi : d.high.length ≤ 3900
  up : d.up.length ≤ 3900
  jo : d.jobs.length ≤ 3900
  jn : d.joined.length ≤ 40000
theorem perm_swp {α : Type} {o p : α} {l L : List α} : (o :: (l ++ p :: L)).Perm (p :: (l ++ o :: L)) :=
  (List.Perm.cons o List.perm_middle).trans ((List.Perm.swap p o (l ++ L)).trans (List.Perm.cons p List.perm_middle.symm))
theorem Sep.rep {K0 H : Hp} {L : List (Addr × HO)} {p o : Addr × HO} (l : List (Addr × HO)) (s : Sep K0 H (p :: (l ++ o :: L))) : Sep K0 H (l ++ p :: L) := (s.perm perm_swp).tail
def sp_law_does (K : PySem.W.Frag) : Sp := fun vs H Q _ => ∃ (A : AdM) (ls : List LineD) (ws : List WorkD) (K0 : Hp) (d : MdD) (M : List (Addr × HO)) (st : SD), vs = [.ref A.m, .str st.word, st.arg] ∧ OwnM K A ls ws K0 H d M ∧ LsOk ls ∧ WsOk ws ∧ StepOk ls ws st ∧ (∀ n, st ≠ .run n) ∧ RowsIn ws d.jobs ∧ SzM d ∧
  ∀ K1 H' A', Same K0 K1 → A'.m = A.m → OwnM K A' ls ws K1 H' (doesM ls d st).1 M → Q (.bl (doesM ls d st).2) H'
theorem lvlOf_eq {ls : List LineD} (nd : (ls.map (·.name)).Nodup) {l : LineD} (h : l ∈ ls) : lvlOf ls l.name = l.lvl := by
  unfold lvlOf
  cases e : ls.find? fun x => decide (x.name = l.name) with
  | none =>
    have := List.find?_eq_none.mp e l h
    simp at this
  | some x =>
    have h1 := List.mem_of_find?_eq_some e
    have h2 : x.name = l.name := of_decide_eq_true (List.find?_some (p := fun x : LineD => decide (x.name = l.name)) e)
    rw [nm_inj nd h1 h h2]
    rfl
theorem upd_twice {H : Hp} {a : Addr} {x y : HO} : upd (upd H a x) a y = upd H a y := by
  funext b
  unfold upd
  split <;> rfl
theorem in_ints {n : Int} {l : List Int} : inV (.int n) (l.map V.int) = decide (n ∈ l) := by
  rw [Bool.eq_iff_iff]
  unfold inV
  simp [eqV]
theorem ints_fl (l : List Int) : (l.map V.int).all flatV = true := by simp [flatV]
section
variable {K0 H : Hp} {L : List (Addr × HO)} {a1 a2 a3 a4 a5 a6 a7 a8 a9 : Addr × HO} {a : Addr} {x y : HO}
theorem Sep.c9 (s : Sep K0 H (a1 :: a2 :: a3 :: a4 :: a5 :: a6 :: a7 :: a8 :: a9 :: (a, x) :: L)) : H a = some x := s.cs.2.2.2.2.2.2.2.2.2.1
theorem Sep.put9 (s : Sep K0 H (a1 :: a2 :: a3 :: a4 :: a5 :: a6 :: a7 :: a8 :: a9 :: (a, x) :: L)) : Sep K0 (upd H a y) (a1 :: a2 :: a3 :: a4 :: a5 :: a6 :: a7 :: a8 :: a9 :: (a, y) :: L) := Sep.put (L1 := [a1, a2, a3, a4, a5, a6, a7, a8, a9]) s
end
theorem doesM_ring {ls : List LineD} {d : MdD} {n : Str} : doesM ls d (.ring n) = if lvlOf ls n = true then ({ d with high := rmS d.high n ++ [n], joined := if n ∈ d.high then d.joined ++ [n] else d.joined }, !decide (n ∈ d.high))
      else ({ d with edge := rmS d.edge n ++ [n], joined := if n ∈ d.edge then d.joined ++ [n] else d.joined }, !decide (n ∈ d.edge)) := rfl

section
variable {P : Program} {w : World} {K : PySem.W.Frag} {mg : Str → Option Value} {base : Heap}

end
end Cb

namespace Cb
open PySem PySem.Spec PyProof.Rows L2

def takesNoM (d : MdD) : SD → Bool
  | .run _ => false
  | .await f => decide ((f : Int) ∈ d.up)
  | _ => true
def thruM (ls : List LineD) : List SD → Nat → Int → MdD → Nat × Int × MdD
  | [], j, t, d => (j, t, d)
  | st :: r, j, t, d => if takesNoM d st = true then thruM ls r (j + 1) 0 (doesM ls d st).1 else (j, t, d)
def goesM (ls : List LineD) (d : MdD) : MdD := match d.calls.getLast? with
  | none => d
  | some c =>
    let z := thruM ls (c.line.steps.drop c.step) c.step c.ticks d
    let e : MdD := { z.2.2 with calls := z.2.2.calls.dropLast }
    if z.1 < c.line.steps.length then { e with calls := e.calls ++ [⟨c.line, z.1, z.2.1, c.kept⟩] } else { e with bar := c.kept, log := e.log ++ [(e.now, .fin c.line)] }
structure SzB (n : Nat) (d : MdD) : Prop where
  sh : d.shut.length ≤ n
  ed : d.edge.length ≤ n
  hi : d.high.length ≤ n
  up : d.up.length ≤ n
  jo : d.jobs.length ≤ n
  jn : d.joined.length ≤ n + 36000
theorem SzB.m {n : Nat} {d : MdD} (h : SzB n d) (hn : n ≤ 3900) : SzM d := ⟨Nat.le_trans h.sh hn, Nat.le_trans h.ed hn, Nat.le_trans h.hi hn, Nat.le_trans h.up hn, Nat.le_trans h.jo hn, Nat.le_trans h.jn (by omega)⟩
theorem rmS_len {l : List Str} {n : Str} : (rmS l n).length ≤ l.length := List.length_filter_le _ _
theorem rmI_len {l : List Int} {n : Int} : (rmI l n).length ≤ l.length := List.length_filter_le _ _
theorem doesM_sz {n : Nat} {ls : List LineD} {d : MdD} {st : SD} (h : SzB n d) : SzB (n + 1) (doesM ls d st).1 := by
  obtain ⟨a, b, c, e, f, g⟩ := h
  have h1 := fun x => rmS_len (l := d.shut) (n := x)
  have h2 := fun x => rmS_len (l := d.edge) (n := x)
  have h3 := fun x => rmS_len (l := d.high) (n := x)
  have h4 := fun x => rmI_len (l := d.up) (n := x)
  cases st with
  | ring x =>
    rw [doesM_ring]
    have z2 := h2 x
    have z3 := h3 x
    split
    · refine ⟨by simp only; omega, by simp only; omega, by simp only [List.length_append, List.length_singleton]; omega, by simp only; omega, by simp only; omega, ?_⟩
      simp only
      split
      · simp only [List.length_append, List.length_singleton]; omega
      · omega
    · refine ⟨by simp only; omega, by simp only [List.length_append, List.length_singleton]; omega, by simp only; omega, by simp only; omega, by simp only; omega, ?_⟩
      simp only
      split
      · simp only [List.length_append, List.length_singleton]; omega
      · omega
  | quiet x =>
    have z := h3 x
    exact ⟨Nat.le_succ_of_le a, Nat.le_succ_of_le b, Nat.le_trans z (Nat.le_succ_of_le c), Nat.le_succ_of_le e, Nat.le_succ_of_le f, Nat.le_succ_of_le g⟩
  | unmask x =>
    have z := h1 x
    exact ⟨Nat.le_trans z (Nat.le_succ_of_le a), Nat.le_succ_of_le b, Nat.le_succ_of_le c, Nat.le_succ_of_le e, Nat.le_succ_of_le f, Nat.le_succ_of_le g⟩
  | mask x =>
    have z := h1 x
    exact ⟨by show (rmS d.shut x ++ [x]).length ≤ _; rw [List.length_append, List.length_singleton]; omega, Nat.le_succ_of_le b, Nat.le_succ_of_le c, Nat.le_succ_of_le e, Nat.le_succ_of_le f, Nat.le_succ_of_le g⟩
  | setf x =>
    have z := h4 x
    exact ⟨Nat.le_succ_of_le a, Nat.le_succ_of_le b, Nat.le_succ_of_le c, by show (rmI d.up x ++ [(x : Int)]).length ≤ _; rw [List.length_append, List.length_singleton]; omega, Nat.le_succ_of_le f, Nat.le_succ_of_le g⟩
  | clearf x =>
    have z := h4 x
    exact ⟨Nat.le_succ_of_le a, Nat.le_succ_of_le b, Nat.le_succ_of_le c, Nat.le_trans z (Nat.le_succ_of_le e), Nat.le_succ_of_le f, Nat.le_succ_of_le g⟩
  | later x =>
    refine ⟨?_, ?_, ?_, ?_, ?_, ?_⟩ <;> (unfold doesM; simp only; split <;> (try simp only [List.length_append, List.length_singleton]) <;> omega)
  | _ => exact ⟨Nat.le_succ_of_le a, Nat.le_succ_of_le b, Nat.le_succ_of_le c, Nat.le_succ_of_le e, Nat.le_succ_of_le f, Nat.le_succ_of_le g⟩
theorem doesM_in {ls : List LineD} {ws : List WorkD} {d : MdD} {st : SD} (h : RowsIn ws d.jobs) (ok : StepOk ls ws st) : RowsIn ws (doesM ls d st).1.jobs := by
  cases st <;> try exact h
  case ring x =>
    rw [doesM_ring]
    split <;> exact h
  case later w =>
    obtain ⟨x, hx, rfl⟩ := ok
    unfold doesM
    simp only
    split
    · exact h
    · intro r m
      rcases List.mem_append.mp m with m | m
      · exact h r m
      · obtain rfl := List.mem_singleton.mp m
        exact ⟨x, hx, rfl⟩
theorem doesM_calls {ls : List LineD} {d : MdD} {st : SD} : (doesM ls d st).1.calls = d.calls := by
  cases st <;> try rfl
  case ring x =>
    rw [doesM_ring]
    split <;> rfl
  case later w =>
    unfold doesM
    simp only
    split <;> rfl
theorem thruM_step {ls : List LineD} {l : List SD} {j : Nat} {t : Int} {d : MdD} {st : SD} (h : l[j]? = some st) (k : takesNoM d st = true) : thruM ls (l.drop j) j t d = thruM ls (l.drop (j + 1)) (j + 1) 0 (doesM ls d st).1 := by
  have hj : j < l.length := (List.getElem?_eq_some_iff.mp h).1
  have e : l[j] = st := (List.getElem?_eq_some_iff.mp h).2
  rw [List.drop_eq_getElem_cons hj, thruM, e, if_pos k]
theorem thruM_stop {ls : List LineD} {l : List SD} {j : Nat} {t : Int} {d : MdD} {st : SD} (h : l[j]? = some st) (k : takesNoM d st = false) : thruM ls (l.drop j) j t d = (j, t, d) := by
  have hj : j < l.length := (List.getElem?_eq_some_iff.mp h).1
  have e : l[j] = st := (List.getElem?_eq_some_iff.mp h).2
  rw [List.drop_eq_getElem_cons hj, thruM, e, k]
  rfl
theorem thruM_end {ls : List LineD} {l : List SD} {j : Nat} {t : Int} {d : MdD} (h : l.length ≤ j) : thruM ls (l.drop j) j t d = (j, t, d) := by
  rw [List.drop_of_length_le h]
  rfl
theorem goesM_snoc {ls : List LineD} {d : MdD} {r : List CallD} {c : CallD} (h : d.calls = r ++ [c]) : goesM ls d =
    let z := thruM ls (c.line.steps.drop c.step) c.step c.ticks d
    let e : MdD := { z.2.2 with calls := z.2.2.calls.dropLast }
    if z.1 < c.line.steps.length then { e with calls := e.calls ++ [⟨c.line, z.1, z.2.1, c.kept⟩] } else { e with bar := c.kept, log := e.log ++ [(e.now, .fin c.line)] } := by
  unfold goesM
  rw [h, last_snoc]
def sp_law_goes (K : PySem.W.Frag) : Sp := fun vs H Q _ => ∃ (A : AdM) (ls : List LineD) (ws : List WorkD) (K0 : Hp) (d : MdD) (M : List (Addr × HO)) (r : List CallD) (c : CallD), vs = [.ref A.m] ∧ OwnM K A ls ws K0 H d M ∧ LsOk ls ∧ WsOk ws ∧ AllOk ls ws ∧ d.calls = r ++ [c] ∧ c.line ∈ ls ∧ c.step ≤ c.line.steps.length ∧ (d.calls.length ≤ 3900 ∧ d.log.length ≤ 9900) ∧ RowsIn ws d.jobs ∧ SzB 3800 d ∧
  ∀ K1 H' A', Same K0 K1 → A'.m = A.m → OwnM K A' ls ws K1 H' (goesM ls d) M → Q .non H'
theorem doesM_log {ls : List LineD} {d : MdD} {st : SD} : (doesM ls d st).1.log = d.log := by
  cases st <;> try rfl
  case ring x =>
    rw [doesM_ring]
    split <;> rfl
  case later w =>
    unfold doesM
    simp only
    split <;> rfl
theorem cut_last {xs : List V} : cutV xs none (some (-1)) = xs.dropLast := by
  cases xs with
  | nil => rfl
  | cons x xs =>
    have e : HT.sIx (x :: xs).length (x :: xs).length (some (-1)) = xs.length := by
      unfold HT.sIx
      simp only
      rw [if_pos (by decide)]
      simp
      omega
    unfold cutV
    rw [e]
    simp [HT.sIx, List.dropLast_eq_take]
theorem TabsAt.up {K : PySem.W.Frag} {H H' : Hp} {A : AdM} {ls : List LineD} {ws : List WorkD} (e : Same H H') (h : TabsAt K H A ls ws) : TabsAt K H' A ls ws := by
  obtain ⟨⟨xs, a, b⟩, ⟨ys, c, d⟩⟩ := h
  exact ⟨⟨xs, e _ _ a, b.mono fun _ _ z => LineAt.up e z⟩, ⟨ys, e _ _ c, d.mono fun _ _ z => WorkAt.up e z⟩⟩

section
variable {P : Program} {w : World} {K : PySem.W.Frag} {mg : Str → Option Value} {base : Heap}

end
end Cb

/-! the law's model against a board and a processor -/
namespace Cb
open PySem PySem.Spec PyProof.Rows L2
structure SubS (S : SetD) (l : List Str) : Prop where
  nd : l.Nodup
  sub : ∀ n ∈ l, n ∈ S.order
structure SubI (l : List Int) : Prop where
  nd : l.Nodup
  sub : ∀ n ∈ l, ∃ f : Nat, f < 8 ∧ n = (f : Int)
structure RelB (S : SetD) (d : MdD) (b : BdD) : Prop where
  edge : ∀ l ∈ S.ls, decide (l.name ∈ d.edge) = (b.rung l.name && !l.lvl)
  high : ∀ l ∈ S.ls, decide (l.name ∈ d.high) = (b.rung l.name && l.lvl)
  shut : ∀ l ∈ S.ls, decide (l.name ∈ d.shut) = b.dis l.name
  up : ∀ f : Nat, f < 8 → decide ((f : Int) ∈ d.up) = b.fl.getD f false
  se : SubS S d.edge
  sh : SubS S d.high
  ss : SubS S d.shut
  su : SubI d.up
def RJ (ws : List WorkD) (rows jobs : List Rw) : Prop := ∀ r : Int, rows.filter (fun x => decide (rankOf ws x.1 = r)) = jobs.filter (fun x => decide (rankOf ws x.1 = r))
structure RelQ (S : SetD) (d : MdD) (b : BdD) (p : PrD) : Prop where
  rb : RelB S d b
  fl : b.fl.length = 8
  bar : d.bar = p.bar
  jobs : RJ S.ws p.rows d.jobs
  s0 : d.s0 = p.c0
  s1 : d.s1 = p.c1
  s2 : d.s2 = p.c2
  s3 : d.s3 = p.c3
structure RelA (S : SetD) (d : MdD) (b : BdD) (p : PrD) : Prop where
  q : RelQ S d b p
  calls : d.calls = p.stack
theorem mem_rmS {l : List Str} {n x : Str} : x ∈ rmS l n ↔ x ∈ l ∧ x ≠ n := by
  unfold rmS
  simp
theorem mem_rmI {l : List Int} {n x : Int} : x ∈ rmI l n ↔ x ∈ l ∧ x ≠ n := by
  unfold rmI
  simp
theorem SubS.rm {S : SetD} {l : List Str} (h : SubS S l) (n : Str) : SubS S (rmS l n) := ⟨h.nd.sublist List.filter_sublist, fun x m => h.sub x (mem_rmS.mp m).1⟩
theorem SubS.put {S : SetD} {l : List Str} (h : SubS S l) {n : Str} (hn : n ∈ S.order) : SubS S (rmS l n ++ [n]) := by
  refine ⟨?_, fun x m => ?_⟩
  · refine List.nodup_append.mpr ⟨(h.rm n).nd, by simp, fun a ha b hb => ?_⟩
    obtain rfl := List.mem_singleton.mp hb
    exact (mem_rmS.mp ha).2
  · rcases List.mem_append.mp m with m | m
    · exact h.sub x (mem_rmS.mp m).1
    · obtain rfl := List.mem_singleton.mp m
      exact hn
theorem SubI.rm {l : List Int} (h : SubI l) (n : Int) : SubI (rmI l n) := ⟨h.nd.sublist List.filter_sublist, fun x m => h.sub x (mem_rmI.mp m).1⟩
theorem SubI.put {l : List Int} (h : SubI l) {f : Nat} (hn : f < 8) : SubI (rmI l f ++ [(f : Int)]) := by
  refine ⟨?_, fun x m => ?_⟩
  · refine List.nodup_append.mpr ⟨(h.rm f).nd, by simp, fun a ha b hb => ?_⟩
    obtain rfl := List.mem_singleton.mp hb
    exact (mem_rmI.mp ha).2
  · rcases List.mem_append.mp m with m | m
    · exact h.sub x (mem_rmI.mp m).1
    · obtain rfl := List.mem_singleton.mp m
      exact ⟨f, hn, rfl⟩
theorem in_put {l : List Str} {n x : Str} : decide (x ∈ rmS l n ++ [n]) = (decide (x = n) || decide (x ∈ l)) := by
  rw [Bool.eq_iff_iff]
  simp [mem_rmS]
  by_cases e : x = n <;> simp [e]
theorem in_rm {l : List Str} {n x : Str} : decide (x ∈ rmS l n) = (!decide (x = n) && decide (x ∈ l)) := by
  rw [Bool.eq_iff_iff]
  simp [mem_rmS, and_comm]
theorem fset_at {f : Str → Bool} {n x : Str} {b : Bool} : fset f n b x = if x = n then b else f x := rfl
theorem act_rel {S : SetD} {d : MdD} {b : BdD} {p : PrD} {st : SD} (ok : SetOk S) (h : RelQ S d b p) (so : StepOk S.ls S.ws st) (w : RwOk S.ws p.rows) : RelQ S (doesM S.ls d st).1 (actB b st) (actP S.ws p st) := by
  obtain ⟨⟨he, hh, hs, hu, se, sh, ss, su⟩, fl, hb, hj, s0, s1, s2, s3⟩ := h
  cases st with
  | run n => exact ⟨⟨he, hh, hs, hu, se, sh, ss, su⟩, fl, hb, hj, s0, s1, s2, s3⟩
  | await n => exact ⟨⟨he, hh, hs, hu, se, sh, ss, su⟩, fl, hb, hj, s0, s1, s2, s3⟩
  | bar n => exact ⟨⟨he, hh, hs, hu, se, sh, ss, su⟩, fl, rfl, hj, s0, s1, s2, s3⟩
  | ring n =>
    obtain ⟨l, hl, rfl⟩ := so
    have ho := ok.mem hl
    rw [doesM_ring, lvlOf_eq ok.ok.nd hl]
    have key : ∀ x ∈ S.ls, x.name = l.name → x = l := fun x m e => nm_inj ok.ok.nd m hl e
    cases hv : l.lvl with
    | true =>
      refine ⟨⟨fun x m => ?_, fun x m => ?_, hs, hu, se, sh.put ho, ss, su⟩, fl, hb, hj, s0, s1, s2, s3⟩
      · show decide (x.name ∈ d.edge) = (fset b.rung l.name true x.name && !x.lvl)
        rw [he x m, fset_at]
        by_cases e : x.name = l.name
        · rw [key x m e, hv]
          simp
        · rw [if_neg e]
      · show decide (x.name ∈ rmS d.high l.name ++ [l.name]) = (fset b.rung l.name true x.name && x.lvl)
        rw [in_put, hh x m, fset_at]
        by_cases e : x.name = l.name
        · rw [if_pos e, key x m e, hv]
          simp
        · rw [if_neg e, decide_eq_false e]
          rfl
    | false =>
      refine ⟨⟨fun x m => ?_, fun x m => ?_, hs, hu, se.put ho, sh, ss, su⟩, fl, hb, hj, s0, s1, s2, s3⟩
      · show decide (x.name ∈ rmS d.edge l.name ++ [l.name]) = (fset b.rung l.name true x.name && !x.lvl)
        rw [in_put, he x m, fset_at]
        by_cases e : x.name = l.name
        · rw [if_pos e, key x m e, hv]
          simp
        · rw [if_neg e, decide_eq_false e]
          rfl
      · show decide (x.name ∈ d.high) = (fset b.rung l.name true x.name && x.lvl)
        rw [hh x m, fset_at]
        by_cases e : x.name = l.name
        · rw [key x m e, hv]
          simp
        · rw [if_neg e]
  | quiet n =>
    obtain ⟨l, hl, rfl, hv⟩ := so
    have key : ∀ x ∈ S.ls, x.name = l.name → x = l := fun x m e => nm_inj ok.ok.nd m hl e
    refine ⟨⟨fun x m => ?_, fun x m => ?_, hs, hu, se, sh.rm _, ss, su⟩, fl, hb, hj, s0, s1, s2, s3⟩
    · show decide (x.name ∈ d.edge) = (fset b.rung l.name false x.name && !x.lvl)
      rw [he x m, fset_at]
      by_cases e : x.name = l.name
      · rw [key x m e, hv]
        simp
      · rw [if_neg e]
    · show decide (x.name ∈ rmS d.high l.name) = (fset b.rung l.name false x.name && x.lvl)
      rw [in_rm, hh x m, fset_at]
      by_cases e : x.name = l.name
      · rw [if_pos e, decide_eq_true e]
        rfl
      · rw [if_neg e, decide_eq_false e]
        rfl
  | mask n =>
    obtain ⟨l, hl, rfl⟩ := so
    refine ⟨⟨he, hh, fun x m => ?_, hu, se, sh, ss.put (ok.mem hl), su⟩, fl, hb, hj, s0, s1, s2, s3⟩
    show decide (x.name ∈ rmS d.shut l.name ++ [l.name]) = fset b.dis l.name true x.name
    rw [in_put, hs x m, fset_at]
    by_cases e : x.name = l.name
    · rw [if_pos e, decide_eq_true e]
      rfl
    · rw [if_neg e, decide_eq_false e]
      rfl
  | unmask n =>
    obtain ⟨l, hl, rfl⟩ := so
    refine ⟨⟨he, hh, fun x m => ?_, hu, se, sh, ss.rm _, su⟩, fl, hb, hj, s0, s1, s2, s3⟩
    show decide (x.name ∈ rmS d.shut l.name) = fset b.dis l.name false x.name
    rw [in_rm, hs x m, fset_at]
    by_cases e : x.name = l.name
    · rw [if_pos e, decide_eq_true e]
      rfl
    · rw [if_neg e, decide_eq_false e]
      rfl
  | setf f =>
    have so : f ≤ 7 := so
    refine ⟨⟨he, hh, hs, fun x m => ?_, se, sh, ss, su.put (by omega)⟩, (by show (b.fl.set f true).length = 8; rw [List.length_set]; exact fl), hb, hj, s0, s1, s2, s3⟩
    show decide ((x : Int) ∈ rmI d.up f ++ [(f : Int)]) = (b.fl.set f true).getD x false
    by_cases e : x = f
    · subst e
      rw [decide_eq_true (by simp), List.getD_eq_getElem?_getD, List.getElem?_set_self (by omega)]
      rfl
    · have ne : ¬ (x : Int) = (f : Int) := by omega
      rw [List.getD_eq_getElem?_getD, List.getElem?_set_ne (fun q => e q.symm), ← List.getD_eq_getElem?_getD, ← hu x m]
      refine decide_eq_decide.mpr ?_
      simp [mem_rmI, ne]
  | clearf f =>
    have so : f ≤ 7 := so
    refine ⟨⟨he, hh, hs, fun x m => ?_, se, sh, ss, su.rm _⟩, (by show (b.fl.set f false).length = 8; rw [List.length_set]; exact fl), hb, hj, s0, s1, s2, s3⟩
    show decide ((x : Int) ∈ rmI d.up f) = (b.fl.set f false).getD x false
    by_cases e : x = f
    · subst e
      rw [decide_eq_false (by simp [mem_rmI]), List.getD_eq_getElem?_getD, List.getElem?_set_self (by omega)]
      rfl
    · have ne : ¬ (x : Int) = (f : Int) := by omega
      rw [List.getD_eq_getElem?_getD, List.getElem?_set_ne (fun q => e q.symm), ← List.getD_eq_getElem?_getD, ← hu x m]
      refine decide_eq_decide.mpr ?_
      simp [mem_rmI, ne]
  | later n =>
    obtain ⟨x, hx, rfl⟩ := so
    have hm : (x.name, (0 : Int)) ∈ p.rows ↔ (x.name, (0 : Int)) ∈ d.jobs := by
      have z := hj (rankOf S.ws x.name)
      constructor
      · intro m
        have m2 : (x.name, (0 : Int)) ∈ p.rows.filter (fun y => decide (rankOf S.ws y.1 = rankOf S.ws x.name)) := List.mem_filter.mpr ⟨m, by simp⟩
        rw [z] at m2
        exact (List.mem_filter.mp m2).1
      · intro m
        have m2 : (x.name, (0 : Int)) ∈ d.jobs.filter (fun y => decide (rankOf S.ws y.1 = rankOf S.ws x.name)) := List.mem_filter.mpr ⟨m, by simp⟩
        rw [← z] at m2
        exact (List.mem_filter.mp m2).1
    have ee : (doesM S.ls d (.later x.name)).1 = if (x.name, 0) ∈ d.jobs then d else { d with jobs := d.jobs ++ [(x.name, 0)] } := rfl
    rw [ee]
    by_cases hd : (x.name, (0 : Int)) ∈ d.jobs
    · rw [if_pos hd]
      have er : actP S.ws p (.later x.name) = p := by
        show { p with rows := putR S.ws p.rows x.name 0 } = p
        unfold putR
        rw [if_pos ⟨rfl, hm.mpr hd⟩]
      rw [er]
      exact ⟨⟨he, hh, hs, hu, se, sh, ss, su⟩, fl, hb, hj, s0, s1, s2, s3⟩
    · rw [if_neg hd]
      refine ⟨⟨he, hh, hs, hu, se, sh, ss, su⟩, fl, hb, ?_, s0, s1, s2, s3⟩
      show RJ S.ws (putR S.ws p.rows x.name 0) (d.jobs ++ [(x.name, 0)])
      unfold putR
      rw [if_neg fun z => hd (hm.mp z.2)]
      simp only
      have C := cut_sorted (p := fun r : Rw => decide (rankOf S.ws x.name ≤ rankOf S.ws r.1)) (l := p.rows) (w.srt.imp fun {a b} z q => decide_eq_true (Int.le_trans (of_decide_eq_true q) z))
      generalize (p.rows.filter fun r => decide (rankOf S.ws x.name ≤ rankOf S.ws r.1)).length = k at C
      intro r
      have z := hj r
      rw [← List.take_append_drop k p.rows, List.filter_append] at z
      rw [List.filter_append, List.filter_append, List.filter_append, ← z]
      by_cases e : rankOf S.ws x.name = r
      · have nil : (p.rows.drop k).filter (fun x => decide (rankOf S.ws x.1 = r)) = [] := by
          refine List.filter_eq_nil_iff.mpr fun y m => ?_
          have := of_decide_eq_false (C.2 y m)
          simp only [decide_eq_true_eq]
          omega
        rw [nil]
        simp
      · simp [e]
theorem takes_rel {S : SetD} {d : MdD} {b : BdD} {st : SD} (h : RelB S d b) (so : StepOk S.ls S.ws st) : takesNoM d st = takesNo b st := by
  cases st <;> try rfl
  case await f =>
    have so : f ≤ 7 := so
    exact h.up f (by omega)
theorem doesM_now {ls : List LineD} {d : MdD} {st : SD} : (doesM ls d st).1.now = d.now := by
  cases st <;> try rfl
  case ring x =>
    rw [doesM_ring]
    split <;> rfl
  case later w =>
    unfold doesM
    simp only
    split <;> rfl
structure ThruRel (S : SetD) (d : MdD) (z : Nat × Int × MdD) (y : Nat × BdD × PrD) : Prop where
  j : z.1 = y.1
  t : z.2.1 = 0
  q : RelQ S z.2.2 y.2.1 y.2.2
  calls : z.2.2.calls = d.calls
  log : z.2.2.log = d.log
  now : z.2.2.now = d.now
theorem thru_rel {S : SetD} (ok : SetOk S) : ∀ (l : List SD) (j : Nat) (d : MdD) (b : BdD) (p : PrD), (∀ st ∈ l, StepOk S.ls S.ws st) → RelQ S d b p → RwOk S.ws p.rows → ThruRel S d (thruM S.ls l j 0 d) (thru S.ws l j b p)
  | [], j, d, b, p, _, h, _ => ⟨rfl, rfl, h, rfl, rfl, rfl⟩
  | st :: r, j, d, b, p, so, h, w => by
    have so1 := so st List.mem_cons_self
    rw [thruM, thru, takes_rel h.rb so1]
    cases e : takesNo b st with
    | true =>
      simp only [if_true]
      have z := thru_rel ok r (j + 1) _ _ _ (fun s m => so s (List.mem_cons_of_mem _ m)) (act_rel ok h so1 w) (actP_rw w so1)
      exact ⟨z.j, z.t, z.q, z.calls.trans doesM_calls, z.log.trans doesM_log, z.now.trans doesM_now⟩
    | false => exact ⟨rfl, rfl, h, rfl, rfl, rfl⟩
def evM (n : Int) (es : List Ev) : List (Int × Ev) := es.map fun e => (n, e)
structure StepRel (S : SetD) (d d' : MdD) (y : BdD × PrD × List Ev) : Prop where
  r : RelA S d' y.1 y.2.1
  log : d'.log = d.log ++ evM d.now y.2.2
  now : d'.now = d.now
theorem RelQ.endB {S : SetD} {d : MdD} {b : BdD} {p : PrD} (h : RelQ S d b p) (l : LineD) : RelQ S d (endB b l) p := ⟨⟨h.rb.edge, h.rb.high, h.rb.shut, h.rb.up, h.rb.se, h.rb.sh, h.rb.ss, h.rb.su⟩, h.fl, h.bar, h.jobs, h.s0, h.s1, h.s2, h.s3⟩
theorem go_rel {S : SetD} {d : MdD} {b : BdD} {p : PrD} {r : List CallD} {c : CallD} (ok : SetOk S) (h : RelA S d b p) (hst : p.stack = r ++ [c]) (hl : c.line ∈ S.ls) (ht : c.ticks = 0) (w : RwOk S.ws p.rows) : StepRel S d (goesM S.ls d) (goA S.ws b p) := by
  have hc : d.calls = r ++ [c] := h.calls.trans hst
  rw [goesM_snoc hc, goA_snoc hst, ht]
  have q0 : RelQ S d b { p with stack := r } := ⟨h.q.rb, h.q.fl, h.q.bar, h.q.jobs, h.q.s0, h.q.s1, h.q.s2, h.q.s3⟩
  have T := thru_rel ok (c.line.steps.drop c.step) c.step d b { p with stack := r } (fun st m => ok.all c.line hl st (List.mem_of_mem_drop m)) q0 w
  have KS := (thru_keep (ws := S.ws) (c.line.steps.drop c.step) c.step b { p with stack := r }).2
  generalize thruM S.ls (c.line.steps.drop c.step) c.step 0 d = z at T
  generalize thru S.ws (c.line.steps.drop c.step) c.step b { p with stack := r } = y at T KS
  obtain ⟨tj, tt, tq, tc, tl, tn⟩ := T
  obtain ⟨z1, z2, z3⟩ := z
  obtain ⟨y1, y2, y3⟩ := y
  simp only at tj tt tq tc tl tn KS ⊢
  subst tj tt
  have ec : z3.calls.dropLast = r := by rw [tc, hc, List.dropLast_concat]
  by_cases e : z1 < c.line.steps.length
  · simp only [e, if_true]
    refine ⟨⟨⟨⟨tq.rb.edge, tq.rb.high, tq.rb.shut, tq.rb.up, tq.rb.se, tq.rb.sh, tq.rb.ss, tq.rb.su⟩, tq.fl, tq.bar, tq.jobs, tq.s0, tq.s1, tq.s2, tq.s3⟩, ?_⟩, ?_, tn⟩
    · show z3.calls.dropLast ++ _ = y3.stack ++ _
      rw [ec, KS]
    · show z3.log = d.log ++ []
      rw [tl, List.append_nil]
  · simp only [e, if_false]
    have tq' := tq.endB c.line
    refine ⟨⟨⟨⟨tq'.rb.edge, tq'.rb.high, tq'.rb.shut, tq'.rb.up, tq'.rb.se, tq'.rb.sh, tq'.rb.ss, tq'.rb.su⟩, tq'.fl, rfl, tq'.jobs, tq'.s0, tq'.s1, tq'.s2, tq'.s3⟩, ?_⟩, ?_, tn⟩
    · show z3.calls.dropLast = y3.stack
      rw [ec, KS]
    · show z3.log ++ [(z3.now, Ev.fin c.line)] = d.log ++ [(d.now, Ev.fin c.line)]
      rw [tl, tn]
end Cb

/-! taking, going on, spending: the law's model against a board and a processor -/
namespace Cb
open PySem PySem.Spec PyProof.Rows L2
def rks (st : List CallD) : List Int := st.map (·.line.rank)
def Asc (p : PrD) : Prop := (rks p.stack).Pairwise (· < ·)
theorem rks_snoc {r : List CallD} {c : CallD} : rks (r ++ [c]) = rks r ++ [c.line.rank] := by simp [rks]
theorem goA_nil {ws : List WorkD} {b : BdD} {p : PrD} (h : p.stack = []) : goA ws b p = (b, p, []) := by
  unfold goA
  rw [h]
  rfl
theorem goA_rks {ws : List WorkD} {b : BdD} {p : PrD} : (rks (goA ws b p).2.1.stack).Sublist (rks p.stack) := by
  rcases List.eq_nil_or_concat p.stack with e | ⟨r, c, e⟩
  · rw [goA_nil e]
    exact List.Sublist.refl _
  · rw [List.concat_eq_append] at e
    rw [goA_snoc e]
    have KS := (thru_keep (ws := ws) (c.line.steps.drop c.step) c.step b { p with stack := r }).2
    generalize thru ws (c.line.steps.drop c.step) c.step b { p with stack := r } = y at KS
    have KS : y.2.2.stack = r := KS
    simp only
    split
    · show (rks (y.2.2.stack ++ [_])).Sublist _
      rw [KS, e, rks_snoc, rks_snoc]
      exact List.Sublist.refl _
    · show (rks y.2.2.stack).Sublist _
      rw [KS, e, rks_snoc]
      exact List.sublist_append_left _ _
theorem goA_asc {ws : List WorkD} {b : BdD} {p : PrD} (h : Asc p) : Asc (goA ws b p).2.1 := List.Pairwise.sublist goA_rks h
theorem onA_asc {ws : List WorkD} : ∀ (n : Nat) (b : BdD) (p : PrD), Asc p → Asc (onA ws n b p).2.1
  | 0, _, _, h => h
  | n + 1, b, p, h => by
    rw [onA]
    split
    · exact onA_asc n _ _ (goA_asc h)
    · exact h
theorem floor_all {p : PrD} (h : Asc p) (x : Int) : (floorA p < x) ↔ p.bar < x ∧ ∀ y ∈ rks p.stack, y < x := by
  rcases List.eq_nil_or_concat p.stack with e | ⟨r, c, e⟩
  · rw [floor_nil e, e]
    simp [rks]
  · rw [List.concat_eq_append] at e
    rw [floor_snoc e, e, rks_snoc]
    unfold Asc at h
    rw [e, rks_snoc] at h
    have hp := (List.pairwise_append.mp h).2.2
    constructor
    · intro q
      have q1 : c.line.rank < x ∧ p.bar < x := by
        split at q <;> omega
      refine ⟨q1.2, fun y m => ?_⟩
      rcases List.mem_append.mp m with m | m
      · have := hp y m _ (List.mem_singleton.mpr rfl)
        omega
      · obtain rfl := List.mem_singleton.mp m
        exact q1.1
    · intro ⟨q1, q2⟩
      have := q2 c.line.rank (by simp)
      split <;> omega
theorem takeA_asc {ws : List WorkD} {b : BdD} {p : PrD} {ls : List LineD} (h : Asc p) : Asc (takeA ws b p ls).2.1 := by
  cases ls with
  | nil => exact h
  | cons l r =>
    unfold takeA
    by_cases e : l.rank > floorA p
    · simp only [e, if_true]
      refine goA_asc ?_
      show (rks (p.stack ++ [_])).Pairwise _
      rw [rks_snoc]
      have hf := (floor_all h l.rank).mp e
      refine List.pairwise_append.mpr ⟨h, by simp, fun y m z hz => ?_⟩
      obtain rfl := List.mem_singleton.mp hz
      exact hf.2 y m
    · simp only [e, if_false]
      exact h
theorem spendA_asc {ws : List WorkD} {b : BdD} {p : PrD} (h : Asc p) : Asc (spendA ws b p).2.1 := by
  rcases List.eq_nil_or_concat p.stack with e | ⟨r, c, e⟩
  · rw [spendA_nil e]
    split
    · exact h
    · split <;> exact h
  · rw [List.concat_eq_append] at e
    have hs : ∀ (c' : CallD) (q : PrD), c'.line = c.line → q.stack = r ++ [c'] → Asc q := fun c' q e1 e2 => by
      unfold Asc
      rw [e2, rks_snoc, e1, ← rks_snoc, ← e]
      exact h
    cases e1 : stepOf c with
    | none =>
      unfold spendA
      rw [e, last_snoc]
      simp only [e1]
      exact h
    | some st =>
      cases st with
      | await f =>
        rw [spendA_await e e1]
        exact h
      | run n =>
        rw [spendA_run e e1]
        split
        · exact hs ⟨c.line, c.step, c.ticks + 1, c.kept⟩ _ rfl rfl
        · exact goA_asc (hs ⟨c.line, c.step + 1, 0, c.kept⟩ _ rfl rfl)
      | _ =>
        unfold spendA
        rw [e, last_snoc]
        simp only [e1]
        exact h
theorem tickA_asc {S : SetD} {b : BdD} {p : PrD} (h : Asc p) : Asc (tickA S.ws S b p).2.1 := spendA_asc (onA_asc _ _ _ (takeA_asc h))
/-! ready lines -/
def readyM (d : MdD) (l : LineD) : Bool := waitsM d l.name && (!decide (l.name ∈ d.shut) && !decide (l.name ∈ underM d))
theorem waits_rel {S : SetD} {d : MdD} {b : BdD} {p : PrD} (h : RelA S d b p) (g : StkOk b p) {l : LineD} (hl : l ∈ S.ls) : waitsM d l.name = waitsB b l := by
  unfold waitsM waitsB underM
  rw [h.q.rb.edge l hl, h.q.rb.high l hl, h.calls]
  have := g.un l.name
  unfold lnames at this
  rw [← this]
  cases b.rung l.name <;> cases l.lvl <;> cases b.und l.name <;> rfl
theorem ready_rel {S : SetD} {d : MdD} {b : BdD} {p : PrD} (h : RelA S d b p) (g : StkOk b p) {l : LineD} (hl : l ∈ S.ls) : readyM d l = readyB b l := by
  unfold readyM readyB
  rw [waits_rel h g hl, h.q.rb.shut l hl]
  unfold underM
  rw [h.calls]
  have := g.un l.name
  unfold lnames at this
  rw [← this, Bool.and_assoc]
theorem ready_list {S : SetD} {d : MdD} {b : BdD} {p : PrD} (ok : SetOk S) (h : RelA S d b p) (g : StkOk b p) : (linesO S).filter (readyM d) = (linesO S).filter (readyB b) := List.filter_congr fun l m => ready_rel h g (linesO_mem ok m)
def beginM (d : MdD) (l : LineD) : MdD := { d with edge := rmS d.edge l.name, log := d.log ++ [(d.now, .bgn l)], calls := d.calls ++ [⟨l, 0, 0, d.bar⟩] }
def takingM (S : SetD) (d : MdD) : MdD := match (linesO S).filter (readyM d) with
  | [] => d
  | l :: _ => if d.bar < l.rank ∧ ∀ y ∈ rks d.calls, y < l.rank then goesM S.ls (beginM d l) else d
theorem begin_rel {S : SetD} {d : MdD} {b : BdD} {p : PrD} {l : LineD} (ok : SetOk S) (h : RelA S d b p) (hl : l ∈ S.ls) : RelA S (beginM d l) (beginB b l) { p with stack := p.stack ++ [⟨l, 0, 0, p.bar⟩] } := by
  obtain ⟨⟨⟨he, hh, hs, hu, se, sh, ss, su⟩, fl, hb, hj, s0, s1, s2, s3⟩, hc⟩ := h
  have key : ∀ x ∈ S.ls, x.name = l.name → x = l := fun x m e => nm_inj ok.ok.nd m hl e
  refine ⟨⟨⟨fun x m => ?_, fun x m => ?_, hs, hu, se.rm _, sh, ss, su⟩, fl, hb, hj, s0, s1, s2, s3⟩, ?_⟩
  · show decide (x.name ∈ rmS d.edge l.name) = ((if l.lvl then b.rung else fset b.rung l.name false) x.name && !x.lvl)
    rw [in_rm, he x m]
    by_cases e : x.name = l.name
    · rw [decide_eq_true e, key x m e]
      cases hv : l.lvl
      · rw [if_neg (by simp), fset_at, if_pos rfl]
        rfl
      · simp
    · rw [decide_eq_false e]
      cases hv : l.lvl
      · rw [if_neg (by simp), fset_at, if_neg e]
        rfl
      · rw [if_pos rfl]
        rfl
  · show decide (x.name ∈ d.high) = ((if l.lvl then b.rung else fset b.rung l.name false) x.name && x.lvl)
    rw [hh x m]
    cases hv : l.lvl
    · rw [if_neg (by simp), fset_at]
      by_cases e : x.name = l.name
      · rw [if_pos e, key x m e, hv]
        simp
      · rw [if_neg e]
    · rw [if_pos rfl]
  · show d.calls ++ _ = p.stack ++ _
    rw [hc, hb]
theorem take_rel {S : SetD} {d : MdD} {b : BdD} {p : PrD} (ok : SetOk S) (h : RelA S d b p) (g : GoodA S b p) (a : Asc p) : StepRel S d (takingM S d) (takeA S.ws b p ((linesO S).filter (readyB b))) := by
  unfold takingM
  rw [ready_list ok h g.stk]
  cases e : (linesO S).filter (readyB b) with
  | nil => exact ⟨h, (by simp [takeA, evM]), rfl⟩
  | cons l r =>
    have hl := linesO_mem ok (List.mem_filter.mp (e ▸ List.mem_cons_self : l ∈ (linesO S).filter (readyB b))).1
    unfold takeA
    have hf := floor_all a l.rank
    rw [← h.calls, ← h.q.bar] at hf
    by_cases c : l.rank > floorA p
    · simp only [c, if_true, if_pos (hf.mp c)]
      have z := go_rel (c := ⟨l, 0, 0, p.bar⟩) (r := p.stack) ok (begin_rel ok h hl) rfl hl rfl g.rows
      refine ⟨z.r, ?_, z.now⟩
      rw [z.log]
      show (d.log ++ [(d.now, Ev.bgn l)]) ++ evM d.now _ = _
      simp [evM]
    · simp only [c, if_false, if_neg fun q => c (hf.mpr q)]
      exact ⟨h, (by simp [evM]), rfl⟩
/-! spending -/
theorem thru_c0 {ws : List WorkD} {x : Int} : ∀ (l : List SD) (j : Nat) (b : BdD) (p : PrD), thru ws l j b { p with c0 := x } = ((thru ws l j b p).1, (thru ws l j b p).2.1, { (thru ws l j b p).2.2 with c0 := x })
  | [], _, _, _ => rfl
  | st :: r, j, b, p => by
    rw [thru, thru]
    split
    · have e : actP ws { p with c0 := x } st = { actP ws p st with c0 := x } := by cases st <;> rfl
      rw [e]
      exact thru_c0 r _ _ _
    · rfl
theorem goA_c0 {ws : List WorkD} {x : Int} {b : BdD} {p : PrD} : goA ws b { p with c0 := x } = ((goA ws b p).1, { (goA ws b p).2.1 with c0 := x }, (goA ws b p).2.2) := by
  rcases List.eq_nil_or_concat p.stack with e | ⟨r, c, e⟩
  · rw [goA_nil e, goA_nil (p := { p with c0 := x }) e]
  · rw [List.concat_eq_append] at e
    have e' : ({ p with c0 := x } : PrD).stack = r ++ [c] := e
    rw [goA_snoc e, goA_snoc e']
    have z := thru_c0 (ws := ws) (x := x) (c.line.steps.drop c.step) c.step b { p with stack := r }
    simp only at z ⊢
    rw [z]
    simp only
    split <;> rfl
theorem spend_await {S : SetD} {d : MdD} {b : BdD} {p : PrD} {r : List CallD} {c : CallD} {f : Nat} (h : RelA S d b p) (hst : p.stack = r ++ [c]) (e : stepOf c = some (.await f)) : StepRel S d { d with s1 := d.s1 + 1 } (spendA S.ws b p) := by
  rw [spendA_await hst e]
  obtain ⟨⟨hr, fl, hb, hj, s0, s1, s2, s3⟩, hc⟩ := h
  exact ⟨⟨⟨⟨hr.edge, hr.high, hr.shut, hr.up, hr.se, hr.sh, hr.ss, hr.su⟩, fl, hb, hj, s0, (by show d.s1 + 1 = p.c1 + 1; rw [s1]), s2, s3⟩, hc⟩, by simp [evM], rfl⟩
theorem spend_run1 {S : SetD} {d : MdD} {b : BdD} {p : PrD} {r : List CallD} {c : CallD} {n : Int} (h : RelA S d b p) (hst : p.stack = r ++ [c]) (e : stepOf c = some (.run n)) (hn : c.ticks + 1 < n) : StepRel S d { d with calls := r ++ [⟨c.line, c.step, c.ticks + 1, c.kept⟩], s0 := d.s0 + 1 } (spendA S.ws b p) := by
  rw [spendA_run hst e, if_pos hn]
  obtain ⟨⟨hr, fl, hb, hj, s0, s1, s2, s3⟩, hc⟩ := h
  exact ⟨⟨⟨⟨hr.edge, hr.high, hr.shut, hr.up, hr.se, hr.sh, hr.ss, hr.su⟩, fl, hb, hj, (by show d.s0 + 1 = p.c0 + 1; rw [s0]), s1, s2, s3⟩, rfl⟩, by simp [evM], rfl⟩
theorem spend_run2 {S : SetD} {d : MdD} {b : BdD} {p : PrD} {r : List CallD} {c : CallD} {n : Int} (ok : SetOk S) (h : RelA S d b p) (hst : p.stack = r ++ [c]) (hl : c.line ∈ S.ls) (w : RwOk S.ws p.rows) (e : stepOf c = some (.run n)) (hn : ¬ c.ticks + 1 < n) : StepRel S d { goesM S.ls { d with calls := r ++ [⟨c.line, c.step + 1, 0, c.kept⟩] } with s0 := (goesM S.ls { d with calls := r ++ [⟨c.line, c.step + 1, 0, c.kept⟩] }).s0 + 1 } (spendA S.ws b p) := by
  rw [spendA_run hst e, if_neg hn]
  have h2 : RelA S { d with calls := r ++ [⟨c.line, c.step + 1, 0, c.kept⟩] } b { p with stack := r ++ [⟨c.line, c.step + 1, 0, c.kept⟩] } := by
    obtain ⟨⟨hr, fl, hb, hj, s0, s1, s2, s3⟩, hc⟩ := h
    exact ⟨⟨⟨hr.edge, hr.high, hr.shut, hr.up, hr.se, hr.sh, hr.ss, hr.su⟩, fl, hb, hj, s0, s1, s2, s3⟩, rfl⟩
  have z := go_rel ok h2 rfl hl rfl w
  have ec := goA_c0 (ws := S.ws) (x := p.c0 + 1) (b := b) (p := { p with stack := r ++ [⟨c.line, c.step + 1, 0, c.kept⟩] })
  have hc0 : (goA S.ws b { p with stack := r ++ [⟨c.line, c.step + 1, 0, c.kept⟩] }).2.1.c0 = p.c0 := by
    have e' : ({ p with stack := r ++ [⟨c.line, c.step + 1, 0, c.kept⟩] } : PrD).stack = r ++ [⟨c.line, c.step + 1, 0, c.kept⟩] := rfl
    have k := goA_c0 (ws := S.ws) (x := p.c0) (b := b) (p := { p with stack := r ++ [⟨c.line, c.step + 1, 0, c.kept⟩] })
    exact congrArg (fun z : BdD × PrD × List Ev => z.2.1.c0) k
  show StepRel S d _ (goA S.ws b { ({ p with stack := r ++ [⟨c.line, c.step + 1, 0, c.kept⟩] } : PrD) with c0 := p.c0 + 1 })
  rw [ec]
  obtain ⟨zr, zl, zn⟩ := z
  obtain ⟨⟨hr, fl, hb, hj, s0, s1, s2, s3⟩, hc⟩ := zr
  exact ⟨⟨⟨⟨hr.edge, hr.high, hr.shut, hr.up, hr.se, hr.sh, hr.ss, hr.su⟩, fl, hb, hj, (by show _ + 1 = p.c0 + 1; rw [s0, hc0]), s1, s2, s3⟩, hc⟩, zl, zn⟩
theorem rj_nil {ws : List WorkD} {rows jobs : List Rw} (h : RJ ws rows jobs) : rows = [] ↔ jobs = [] := by
  constructor
  · intro e
    cases jobs with
    | nil => rfl
    | cons x r =>
      have := h (rankOf ws x.1)
      rw [e] at this
      simp at this
  · intro e
    cases rows with
    | nil => rfl
    | cons x r =>
      have := h (rankOf ws x.1)
      rw [e] at this
      simp at this
theorem rj_mem {ws : List WorkD} {rows jobs : List Rw} (h : RJ ws rows jobs) {x : Rw} : x ∈ rows ↔ x ∈ jobs := by
  have z := h (rankOf ws x.1)
  have e : ∀ l : List Rw, x ∈ l ↔ x ∈ l.filter (fun y => decide (rankOf ws y.1 = rankOf ws x.1)) := fun l => by simp [List.mem_filter]
  rw [e rows, e jobs, z]
structure CutJ (ws : List WorkD) (jobs : List Rw) (n : Str) (t : Int) (rest : List Rw) where
  pre : List Rw
  post : List Rw
  eq : jobs = pre ++ (n, t) :: post
  lt : ∀ x ∈ pre, rankOf ws x.1 < rankOf ws n
  le : ∀ x ∈ post, rankOf ws x.1 ≤ rankOf ws n
  rj : RJ ws rest (pre ++ post)
theorem rj_cut {ws : List WorkD} {rows jobs rest : List Rw} {n : Str} {t : Int} (h : RJ ws rows jobs) (e : rows = (n, t) :: rest) (srt : rows.Pairwise fun a b => rankOf ws b.1 ≤ rankOf ws a.1) : Nonempty (CutJ ws jobs n t rest) := by
  have z := h (rankOf ws n)
  rw [e, List.filter_cons, if_pos (by simp)] at z
  obtain ⟨pre, post, h1, h2, h3, h4⟩ := List.filter_eq_cons_iff.mp z.symm
  have hle : ∀ x ∈ jobs, rankOf ws x.1 ≤ rankOf ws n := fun x m => by
    have m2 := (rj_mem h).mpr m
    rw [e] at m2 srt
    rcases List.mem_cons.mp m2 with q | q
    · rw [q]
      exact Int.le_refl _
    · exact (List.pairwise_cons.mp srt).1 x q
  refine ⟨⟨pre, post, h1, fun x m => ?_, fun x m => hle x (by rw [h1]; simp [m]), fun r => ?_⟩⟩
  · have a := hle x (by rw [h1]; simp [m])
    have b := h2 x m
    simp only [decide_eq_true_eq] at b
    omega
  · have z2 := h r
    rw [e, h1] at z2
    rw [List.filter_append]
    by_cases q : rankOf ws n = r
    · subst q
      have n1 : pre.filter (fun x => decide (rankOf ws x.1 = rankOf ws n)) = [] := List.filter_eq_nil_iff.mpr fun x m => h2 x m
      rw [n1, List.nil_append, h4]
    · simpa [q] using z2
theorem spend_idle {S : SetD} {d : MdD} {b : BdD} {p : PrD} (h : RelA S d b p) (hst : p.stack = []) (hj : d.jobs = []) : StepRel S d { d with s3 := d.s3 + 1 } (spendA S.ws b p) := by
  have hr0 := (rj_nil h.q.jobs).mpr hj
  rw [spendA_nil hst, hr0]
  obtain ⟨⟨hr, fl, hb, hj, s0, s1, s2, s3⟩, hc⟩ := h
  exact ⟨⟨⟨⟨hr.edge, hr.high, hr.shut, hr.up, hr.se, hr.sh, hr.ss, hr.su⟩, fl, hb, (by show RJ S.ws [] d.jobs; rw [← hr0]; exact hj), s0, s1, s2, (by show d.s3 + 1 = p.c3 + 1; rw [s3])⟩, hc⟩, by simp [evM], rfl⟩
theorem spend_work {S : SetD} {d : MdD} {b : BdD} {p : PrD} {n : Str} {t : Int} {rest : List Rw} (h : RelA S d b p) (hst : p.stack = []) (hr : p.rows = (n, t) :: rest) (C : CutJ S.ws d.jobs n t rest) :
    if t + 1 < lenOf S.ws n then StepRel S d { d with jobs := C.pre ++ (n, t + 1) :: C.post, s2 := d.s2 + 1 } (spendA S.ws b p)
    else StepRel S d { d with jobs := C.pre ++ C.post, log := d.log ++ [(d.now, .dne n)], s2 := d.s2 + 1 } (spendA S.ws b p) := by
  rw [spendA_nil hst, hr]
  obtain ⟨⟨hrb, fl, hb, hj, s0, s1, s2, s3⟩, hc⟩ := h
  by_cases e : t + 1 < lenOf S.ws n
  · simp only [e, if_true]
    refine ⟨⟨⟨⟨hrb.edge, hrb.high, hrb.shut, hrb.up, hrb.se, hrb.sh, hrb.ss, hrb.su⟩, fl, hb, fun r => ?_, s0, s1, (by show d.s2 + 1 = p.c2 + 1; rw [s2]), s3⟩, hc⟩, by simp [evM], rfl⟩
    have z := C.rj r
    have z1 : C.pre.filter (fun x => decide (rankOf S.ws x.1 = r)) = [] ∨ rankOf S.ws n ≠ r := by
      by_cases q : rankOf S.ws n = r
      · refine .inl (List.filter_eq_nil_iff.mpr fun x m => ?_)
        have := C.lt x m
        simp only [decide_eq_true_eq]
        omega
      · exact .inr q
    rw [List.filter_append] at z
    rw [List.filter_append, List.filter_cons, List.filter_cons, z]
    by_cases q : rankOf S.ws n = r
    · rcases z1 with z1 | z1
      · rw [if_pos (by simp [q]), if_pos (by simp [q]), z1]
        rfl
      · exact absurd q z1
    · rw [if_neg (by simp [q]), if_neg (by simp [q])]
  · simp only [e, if_false]
    refine ⟨⟨⟨⟨hrb.edge, hrb.high, hrb.shut, hrb.up, hrb.se, hrb.sh, hrb.ss, hrb.su⟩, fl, hb, C.rj, s0, s1, (by show d.s2 + 1 = p.c2 + 1; rw [s2]), s3⟩, hc⟩, by simp [evM], rfl⟩
theorem rows_uniq {ws : List WorkD} : ∀ {l1 l2 : List Rw}, RJ ws l1 l2 → (l1.Pairwise fun a b => rankOf ws b.1 ≤ rankOf ws a.1) → (l2.Pairwise fun a b => rankOf ws b.1 ≤ rankOf ws a.1) → l1 = l2
  | [], l2, h, _, _ => ((rj_nil h).mp rfl).symm
  | a :: l1, [], h, _, _ => by
    have := (rj_nil h).mpr rfl
    cases this
  | a :: l1, c :: l2, h, s1, s2 => by
    have t1 := List.pairwise_cons.mp s1
    have t2 := List.pairwise_cons.mp s2
    have ma : a ∈ c :: l2 := (rj_mem h).mp List.mem_cons_self
    have mc : c ∈ a :: l1 := (rj_mem h).mpr List.mem_cons_self
    have er : rankOf ws a.1 = rankOf ws c.1 := by
      have h1 : rankOf ws a.1 ≤ rankOf ws c.1 := by
        rcases List.mem_cons.mp ma with q | q
        · rw [q]; exact Int.le_refl _
        · exact t2.1 a q
      have h2 : rankOf ws c.1 ≤ rankOf ws a.1 := by
        rcases List.mem_cons.mp mc with q | q
        · rw [q]; exact Int.le_refl _
        · exact t1.1 c q
      omega
    have z := h (rankOf ws a.1)
    rw [List.filter_cons, List.filter_cons, if_pos (by simp), if_pos (by simp [er])] at z
    injection z with z0 z1
    subst z0
    refine congrArg (a :: ·) (rows_uniq (fun r => ?_) t1.2 t2.2)
    by_cases q : rankOf ws a.1 = r
    · subst q
      exact z1
    · have y := h r
      rwa [List.filter_cons, List.filter_cons, if_neg (by simp [q]), if_neg (by simp [q])] at y
end Cb

namespace Cb
open PySem PySem.Spec PyProof.Rows L2

theorem strLt_total {x y : Str} (h1 : strLt x y = false) (h2 : strLt y x = false) : x = y := by
  unfold strLt at h1 h2
  have a := of_decide_eq_false h1
  have b := of_decide_eq_false h2
  have e : x.cps.toList = y.cps.toList := List.le_antisymm (List.not_lt.mp b) (List.not_lt.mp a)
  cases x
  cases y
  simp only at e
  congr
  exact Array.ext' e
theorem lexIS_total {x y : Int × Str} (h1 : lexIS x y = false) (h2 : lexIS y x = false) : x = y := by
  obtain ⟨i, s⟩ := x
  obtain ⟨j, t⟩ := y
  unfold lexIS at h1 h2
  simp only at h1 h2
  by_cases e : i = j
  · rw [if_pos e] at h1
    rw [if_pos e.symm] at h2
    rw [e, strLt_total h1 h2]
  · rw [if_neg e] at h1
    rw [if_neg fun q => e q.symm] at h2
    have := of_decide_eq_false h1
    have := of_decide_eq_false h2
    omega
def keyN (S : SetD) (n : Str) : Int × Str := (-(lineOf S n).rank, n)
theorem order_srt {S : SetD} (ok : SetOk S) : S.order.Pairwise fun a b => lexIS (keyN S b) (keyN S a) = false := by
  refine ok.srt.imp_of_mem fun {a b} ha hb h => ?_
  obtain ⟨la, hla, rfl⟩ := ok.line ha
  obtain ⟨lb, hlb, rfl⟩ := ok.line hb
  have z := h la hla lb hlb rfl rfl
  unfold keyN
  rw [lineOf_eq ok hla, lineOf_eq ok hlb]
  exact z
theorem order_uniq {S : SetD} (ok : SetOk S) {ns xs : List Str} (nd : ns.Nodup) (sub : ∀ n ∈ ns, n ∈ S.order) (pm : xs.Perm ns) (sd : xs.Pairwise fun a b => lexIS (keyN S b) (keyN S a) = false) : xs = S.order.filter fun n => decide (n ∈ ns) := by
  refine List.Perm.eq_of_pairwise (le := fun a b => lexIS (keyN S b) (keyN S a) = false) (fun a b _ _ h1 h2 => ?_) sd ((order_srt ok).sublist List.filter_sublist) ?_
  · have z := lexIS_total h2 h1
    unfold keyN at z
    exact (Prod.mk.inj z).2
  · refine pm.trans ((List.perm_ext_iff_of_nodup nd (ok.nd.sublist List.filter_sublist)).mpr fun n => ?_)
    simp only [List.mem_filter, decide_eq_true_eq]
    exact ⟨fun m => ⟨sub n m, m⟩, fun m => m.2⟩
theorem filter_linesO {S : SetD} (ok : SetOk S) (f : Str → Bool) : S.order.filter f = ((linesO S).filter fun l => f l.name).map (·.name) := by
  unfold linesO
  rw [List.filter_map, List.map_map]
  have e : ∀ n ∈ S.order, (lineOf S n).name = n := fun n m => by
    obtain ⟨l, hl, rfl⟩ := ok.line m
    rw [lineOf_eq ok hl]
  have e2 : S.order.filter (((fun l : LineD => f l.name)) ∘ lineOf S) = S.order.filter f := List.filter_congr fun n m => by
    show f (lineOf S n).name = f n
    rw [e n m]
  rw [e2]
  refine (List.map_id' _).symm.trans (List.map_congr_left fun n m => ?_)
  exact (e n (List.mem_filter.mp m).1).symm
def RankN (S : SetD) (K' : Hp) (v : V) (n : Str) : Prop := ∃ t, v = .ref t ∧ K' t = some (.tup [.int (0 - (lineOf S n).rank), .str n])
theorem rankN_key {S : SetD} {K' : Hp} {acc : List V} {ns : List Str} (p : Paired (RankN S K') acc ns) {v : V} (m : v ∈ acc) : ∃ n ∈ ns, ∃ t, v = .ref t ∧ K' t = some (.tup [.int (0 - (lineOf S n).rank), .str n]) ∧ keyOf K' v = keyN S n := by
  obtain ⟨i, hi⟩ := List.mem_iff_getElem?.mp m
  obtain ⟨n, hn, t, rfl, h⟩ := pget p hi
  refine ⟨n, List.mem_of_getElem? hn, t, rfl, h, ?_⟩
  rw [keyOf_at h]
  unfold keyN
  rw [Int.zero_sub]
theorem rankN_mem {S : SetD} {K' : Hp} {acc : List V} {ns : List Str} (p : Paired (RankN S K') acc ns) {v : V} (m : v ∈ acc) : ∃ t i s, v = .ref t ∧ K' t = some (.tup [.int i, .str s]) ∧ keyOf K' v = (i, s) := by
  obtain ⟨n, hn, t, e, h, k⟩ := rankN_key p m
  subst e
  exact ⟨t, _, _, rfl, h, keyOf_at h⟩
theorem rankN_names {S : SetD} {K' : Hp} : ∀ {acc : List V} {ns : List Str}, Paired (RankN S K') acc ns → acc.map (fun v => (keyOf K' v).2) = ns
  | _, _, .nil => rfl
  | _, _, .cons ⟨t, e, h⟩ p => by
    subst e
    rw [List.map_cons, rankN_names p, keyOf_at h]
def sp_law_in_order (K : PySem.W.Frag) : Sp := fun vs H Q _ => ∃ (A : AdM) (S : SetD) (ws : List WorkD) (K0 : Hp) (d : MdD) (a : Addr) (ns : List Str), vs = [.ref A.m, .ref a] ∧ SetOk S ∧ H A.m = some (.dK (mdK A d)) ∧ TabsAt K H A S.ls ws ∧ H a = some (.lst (ns.map V.str)) ∧ ns.Nodup ∧ (∀ n ∈ ns, n ∈ S.order) ∧
  ∀ p H', Same H H' → H p = none → H' p = some (.lst ((S.order.filter fun n => decide (n ∈ ns)).map V.str)) → Q (.ref p) H'

section
variable {P : Program} {w : World} {K : PySem.W.Frag} {mg : Str → Option Value} {base : Heap}

end
end Cb

namespace Cb
open PySem PySem.Spec PyProof.Rows L2

def del (K : Hp) (a : Addr) : Hp := fun b => if b = a then none else K b
theorem del_le {K : Hp} {a : Addr} : Same (del K a) K := fun b o h => by
  unfold del at h
  split at h
  · cases h
  · exact h
theorem del_at {K : Hp} {a b : Addr} {o u : HO} (h : K b = some o) (hd : K a = some u) (ne : o ≠ u) : del K a b = some o := by
  unfold del
  rw [if_neg]
  · exact h
  · intro e
    subst e
    rw [h] at hd
    exact ne (Option.some.inj hd)
theorem Sep.loose {K0 H : Hp} {L : List (Addr × HO)} {a : Addr} {o : HO} (s : Sep K0 H L) (h : K0 a = some o) : Sep (del K0 a) H ((a, o) :: L) := by
  refine ⟨Same.tr del_le s.ext, List.nodup_cons.mpr ⟨fun m => ?_, s.nd⟩, fun b m => ?_, s.ext _ _ h, s.cs⟩
  · have := s.fr a m
    rw [h] at this
    cases this
  · rcases List.mem_cons.mp m with e | m
    · have e : b = a := e
      subst e
      unfold del
      rw [if_pos rfl]
    · unfold del
      split
      · rfl
      · exact s.fr b m
theorem sqT_del {K : PySem.W.Frag} {K0 : Hp} {a x : Addr} {vs : List V} {kvs : List (Key × V)} (h : SqT K K0 x vs) (hd : K0 a = some (.dK kvs)) : SqT K (del K0 a) x vs := by
  rcases h with (h | ⟨od, h⟩) | h
  · exact .inl (.inl (del_at h hd (by intro e; cases e)))
  · exact .inl (.inr ⟨od, del_at h hd (by intro e; cases e)⟩)
  · exact .inr h
theorem StepAt.del {K : PySem.W.Frag} {K0 : Hp} {a : Addr} {kvs : List (Key × V)} {v : V} {s : SD} (hd : K0 a = some (.dK kvs)) (h : StepAt K K0 v s) : StepAt K (del K0 a) v s := h.elim fun t h => ⟨t, h.1, sqT_del h.2 hd⟩
theorem LineAt.del {K : PySem.W.Frag} {K0 : Hp} {a : Addr} {kvs : List (Key × V)} {v : V} {s : LineD} (hd : K0 a = some (.dK kvs)) (h : LineAt K K0 v s) : LineAt K (del K0 a) v s := by
  obtain ⟨t, g, hs, rfl, h1, h2, h3⟩ := h
  exact ⟨t, g, hs, rfl, sqT_del h1 hd, sqT_del h2 hd, h3.mono fun _ _ z => StepAt.del hd z⟩
theorem CallAt.del {K : PySem.W.Frag} {K0 : Hp} {a : Addr} {kvs : List (Key × V)} {v : V} {s : CallD} (hd : K0 a = some (.dK kvs)) (h : CallAt K K0 v s) : CallAt K (del K0 a) v s := h.elim fun t h => ⟨t, h.1, sqT_del h.2 hd⟩
theorem same_del {K0 K1 : Hp} {a : Addr} {o : HO} (g : Same (del K0 a) K1) (h : K0 a = some o) : Same K0 (upd K1 a o) := fun b u z => by
  by_cases e : b = a
  · subst e
    rw [h] at z
    cases z
    exact upd_same
  · rw [upd_ne e]
    refine g b u ?_
    unfold del
    rw [if_neg e]
    exact z
theorem byN_get {ls : List LineD} {xs : List V} {i : Nat} {k : Key} {v : V} (h : (byN ls xs)[i]? = some (k, v)) : ∃ l, ls[i]? = some l ∧ xs[i]? = some v ∧ k = .inr l.name := by
  unfold byN at h
  rw [List.getElem?_map] at h
  obtain ⟨p, hp, e⟩ := Option.map_eq_some_iff.mp h
  rw [List.getElem?_zip_eq_some] at hp
  cases e
  exact ⟨p.1, hp.1, hp.2, rfl⟩
theorem hu64_mem {ls : List LineD} {l : LineD} {i : Nat} (f : LineD → Bool) (h : ls[i]? = some l) : ((ls.take (i + 1)).filter f).map (·.name) = ((ls.take i).filter f).map (·.name) ++ (if f l = true then [l.name] else []) := by
  rw [filter_snoc f h, List.map_append]
  split <;> rfl
def freeM (d : MdD) (n : Str) : Bool := !decide (n ∈ d.shut) && !decide (n ∈ underM d)
def dIS (k : Int × Str) : PyData := .tuple [.int k.1, .str k.2]
theorem dIS_lay {k : Int × Str} (h : nameOk k.2) : PyData.canLay0 (dIS k) = true := by
  unfold dIS
  simp [PyData.canLay0, PyData.canLayAll0, sok h]
theorem dIS_dep (k : Int × Str) : PyData.depth (dIS k) ≤ 2 := by
  unfold dIS
  simp [PyData.depth, PyData.depthAll]
theorem rk_dp {K : PySem.W.Frag} {K3 H : Hp} : ∀ {ys : List V}, (∀ v ∈ ys, ∃ n t, v = .ref t ∧ K3 t = some (.tup [.int (keyOf K3 v).1, .str n]) ∧ (keyOf K3 v).2 = n ∧ nameOk n) → Same K3 H → DpAll K H ys (ys.map fun v => dIS (keyOf K3 v))
  | [], _, _ => .nil
  | v :: ys, h, g => by
    obtain ⟨n, t, e, h1, h2, _⟩ := h v List.mem_cons_self
    refine .cons ?_ (rk_dp (fun u m => h u (List.mem_cons_of_mem _ m)) g)
    show Dp K H v (.tuple [.int (keyOf K3 v).1, .str (keyOf K3 v).2])
    subst e
    rw [h2]
    exact .tup (t_of (g _ _ h1)) (.cons (.int _) (.cons (.str _) .nil))
theorem rk_lay {K3 : Hp} : ∀ {ys : List V}, (∀ v ∈ ys, ∃ n t, v = .ref t ∧ K3 t = some (.tup [.int (keyOf K3 v).1, .str n]) ∧ (keyOf K3 v).2 = n ∧ nameOk n) → PyData.canLayAll0 (ys.map fun v => dIS (keyOf K3 v)) = true
  | [], _ => by simp [PyData.canLayAll0]
  | v :: ys, h => by
    obtain ⟨n, t, e, h1, h2, h3⟩ := h v List.mem_cons_self
    have z := rk_lay (K3 := K3) (ys := ys) fun u m => h u (List.mem_cons_of_mem _ m)
    rw [List.map_cons]
    unfold PyData.canLayAll0
    rw [z, dIS_lay (k := keyOf K3 v) (by rw [h2]; exact h3)]
    rfl
theorem rk_dep {K3 : Hp} : ∀ ys : List V, PyData.depthAll (ys.map fun v => dIS (keyOf K3 v)) ≤ 2
  | [] => by simp [PyData.depthAll]
  | a :: l => by
    have h1 := rk_dep (K3 := K3) l
    have h2 := dIS_dep (keyOf K3 a)
    rw [List.map_cons]
    unfold PyData.depthAll
    omega
theorem rk_sh {K3 : Hp} {ys : List V} (h : ∀ v ∈ ys, ∃ n t, v = .ref t ∧ K3 t = some (.tup [.int (keyOf K3 v).1, .str n]) ∧ (keyOf K3 v).2 = n ∧ nameOk n) : SeqAt.shaped (.list (ys.map fun v => dIS (keyOf K3 v))) = true := by
  have := rk_dep (K3 := K3) ys
  unfold SeqAt.shaped
  simp [PyData.canLay0, rk_lay h, PyData.depth]
  omega
def sp_law_taking (K : PySem.W.Frag) : Sp := fun vs H Q _ => ∃ (A : AdM) (S : SetD) (K0 : Hp) (d : MdD) (M : List (Addr × HO)), vs = [.ref A.m] ∧ OwnM K A S.ls S.ws K0 H d M ∧ SetOk S ∧ (∀ c ∈ d.calls, c.line ∈ S.ls) ∧ d.log.length ≤ 9800 ∧ d.calls.length ≤ 12 ∧ RowsIn S.ws d.jobs ∧ SzB 3700 d ∧
  ∀ K1 H' A', Same K0 K1 → A'.m = A.m → OwnM K A' S.ls S.ws K1 H' (takingM S d) M → Q .non H'

section
variable {P : Program} {w : World} {K : PySem.W.Frag} {mg : Str → Option Value} {base : Heap}

end
end Cb

namespace Cb
open PySem PySem.Spec PyProof.Rows L2

theorem byW_at : ∀ {ls : List WorkD} {xs : List V} {i : Nat} {l : WorkD} {v : V}, (ls.map (·.name)).Nodup → ls[i]? = some l → xs[i]? = some v → valV (byW ls xs) (.inr l.name) = some v
  | [], _, i, _, _, _, h, _ => by simp at h
  | _ :: _, [], i, _, _, _, _, h => by simp at h
  | m :: ls, x :: xs, 0, l, v, nd, h, g => by
    simp at h g
    subst h g
    simp [byW, valV]
  | m :: ls, x :: xs, i + 1, l, v, nd, h, g => by
    simp at h g
    have nd2 := List.nodup_cons.mp nd
    have ne : m.name ≠ l.name := fun q => nd2.1 (by show m.name ∈ _; rw [q]; exact List.mem_map_of_mem (List.mem_of_getElem? h))
    have z := byW_at (xs := xs) nd2.2 h g
    unfold byW valV at z ⊢
    rw [List.zip_cons_cons, List.map_cons, List.find?_cons_of_neg (by simp [ne])]
    exact z
def workM (ws : List WorkD) (d : MdD) (n : Str) (t : Int) (rest : List Rw) (C : CutJ ws d.jobs n t rest) : MdD :=
  if t + 1 = lenOf ws n then { d with jobs := C.pre ++ C.post, log := d.log ++ [(d.now, .dne n)] } else { d with jobs := C.pre ++ (n, t + 1) :: C.post }
theorem seqIx {j n : Nat} (h : j < n) : PySem.seqIndex? (j : Nat) n = some j := by
  unfold PySem.seqIndex?
  simp
  omega
theorem pset {α β : Type} {F : α → β → Prop} {x : α} {y : β} (h : F x y) : ∀ {l₁ : List α} {l₂ : List β}, Paired F l₁ l₂ → ∀ n, Paired F (l₁.set n x) (l₂.set n y)
  | _, _, .nil, _ => by simpa using Paired.nil
  | _, _, .cons f p, 0 => .cons h p
  | _, _, .cons f p, n + 1 => .cons f (pset h p n)
theorem perase {α β : Type} {F : α → β → Prop} : ∀ {l₁ : List α} {l₂ : List β}, Paired F l₁ l₂ → ∀ n, Paired F (l₁.eraseIdx n) (l₂.eraseIdx n)
  | _, _, .nil, _ => by simpa using Paired.nil
  | _, _, .cons f p, 0 => p
  | _, _, .cons f p, n + 1 => .cons f (perase p n)
def sp_law_working (K : PySem.W.Frag) : Sp := fun vs H Q _ => ∃ (A : AdM) (S : SetD) (K0 : Hp) (d : MdD) (M : List (Addr × HO)) (n : Str) (t : Int) (rest : List Rw) (C : CutJ S.ws d.jobs n t rest), vs = [.ref A.m] ∧ OwnM K A S.ls S.ws K0 H d M ∧ SetOk S ∧ RowsIn S.ws d.jobs ∧ d.jobs.length ≤ 3900 ∧ d.log.length ≤ 9900 ∧
  ∀ K1 H', Same K0 K1 → OwnM K A S.ls S.ws K1 H' (workM S.ws d n t rest C) M → Q .non H'

section
variable {P : Program} {w : World} {K : PySem.W.Frag} {mg : Str → Option Value} {base : Heap}

end
end Cb

/-! a tick, by the law's model -/
namespace Cb
open PySem PySem.Spec PyProof.Rows L2
def Fit (S : SetD) (p : PrD) : Prop := ∀ r ∈ p.rows, r.2 < lenOf S.ws r.1
theorem fit_act {S : SetD} {p : PrD} {st : SD} (ok : SetOk S) (h : Fit S p) (so : StepOk S.ls S.ws st) : Fit S (actP S.ws p st) := by
  cases st <;> try exact h
  case later n =>
    obtain ⟨x, hx, rfl⟩ := so
    intro r m
    have m : r ∈ putR S.ws p.rows x.name 0 := m
    unfold putR at m
    split at m
    · exact h r m
    · simp only [List.mem_append, List.mem_singleton] at m
      rcases m with (m | m) | m
      · exact h r (List.mem_of_mem_take m)
      · subst m
        show (0 : Int) < lenOf S.ws x.name
        rw [lenOf_eq ok.okw.nd hx]
        have := (ok.okw.ok x hx).t1
        omega
      · exact h r (List.mem_of_mem_drop m)
theorem fit_thru {S : SetD} (ok : SetOk S) : ∀ (l : List SD) (j : Nat) (b : BdD) (p : PrD), (∀ st ∈ l, StepOk S.ls S.ws st) → Fit S p → Fit S (thru S.ws l j b p).2.2
  | [], _, _, _, _, h => h
  | st :: r, j, b, p, so, h => by
    rw [thru]
    split
    · exact fit_thru ok r _ _ _ (fun s m => so s (List.mem_cons_of_mem _ m)) (fit_act ok h (so st List.mem_cons_self))
    · exact h
theorem fit_go {S : SetD} {b : BdD} {p : PrD} (ok : SetOk S) (hc : ∀ c ∈ p.stack, c.line ∈ S.ls) (h : Fit S p) : Fit S (goA S.ws b p).2.1 := by
  rcases List.eq_nil_or_concat p.stack with e | ⟨r, c, e⟩
  · rw [goA_nil e]
    exact h
  · rw [List.concat_eq_append] at e
    rw [goA_snoc e]
    have T := fit_thru (S := S) ok (c.line.steps.drop c.step) c.step b { p with stack := r } (fun st m => ok.all c.line (hc c (by rw [e]; simp)) st (List.mem_of_mem_drop m)) h
    simp only
    split <;> exact T
theorem fit_on {S : SetD} (ok : SetOk S) : ∀ (n : Nat) (b : BdD) (p : PrD), GoodA S b p → Fit S p → Fit S (onA S.ws n b p).2.1
  | 0, _, _, _, h => h
  | n + 1, b, p, g, h => by
    rw [onA]
    split
    · rename_i e
      have G := onA_good ok 1 b p g
      rw [onA_yes e] at G
      exact fit_on ok n _ _ G (fit_go ok (fun c m => (g.calls c m).ln) h)
    · exact h
theorem fit_take {S : SetD} {b : BdD} {p : PrD} {ls : List LineD} (ok : SetOk S) (g : GoodA S b p) (hls : ∀ l ∈ ls, l ∈ S.ls) (h : Fit S p) : Fit S (takeA S.ws b p ls).2.1 := by
  cases ls with
  | nil => exact h
  | cons l r =>
    unfold takeA
    by_cases e : l.rank > floorA p
    · simp only [e, if_true]
      refine fit_go ok (fun c m => ?_) h
      rcases List.mem_append.mp m with m | m
      · exact (g.calls c m).ln
      · obtain rfl := List.mem_singleton.mp m
        exact hls l List.mem_cons_self
    · simp only [e, if_false]
      exact h
theorem fit_spend {S : SetD} {b : BdD} {p : PrD} (ok : SetOk S) (g : GoodA S b p) (h : Fit S p) : Fit S (spendA S.ws b p).2.1 := by
  rcases List.eq_nil_or_concat p.stack with e | ⟨r, c, e⟩
  · rw [spendA_nil e]
    cases hr : p.rows with
    | nil => intro r m; exact h r (by have m : r ∈ ([] : List Rw) := by simpa [hr] using m
                                      cases m)
    | cons x l =>
      obtain ⟨n, t⟩ := x
      have hl : ∀ r ∈ l, r.2 < lenOf S.ws r.1 := fun r m => h r (by rw [hr]; exact List.mem_cons_of_mem _ m)
      by_cases q : t + 1 < lenOf S.ws n
      · simp only [q, if_true]
        intro r m
        rcases List.mem_cons.mp m with m | m
        · rw [m]
          exact q
        · exact hl r m
      · simp only [q, if_false]
        exact hl
  · rw [List.concat_eq_append] at e
    have hc := g.calls c (by rw [e]; simp)
    rcases hc.st with ⟨n, e1, _⟩ | ⟨f, e1, _⟩
    · rw [spendA_run e e1]
      split
      · exact h
      · refine fit_go ok (fun c' m => ?_) h
        rcases List.mem_append.mp m with m | m
        · exact (g.calls c' (by rw [e]; simp [m])).ln
        · obtain rfl := List.mem_singleton.mp m
          exact hc.ln
    · rw [spendA_await e e1]
      exact h
theorem doesM_jn {ls : List LineD} {d : MdD} {st : SD} : (doesM ls d st).1.joined.length ≤ d.joined.length + 1 := by
  cases st <;> try exact Nat.le_succ _
  case ring x =>
    rw [doesM_ring]
    split <;> (simp only; split <;> simp)
  case later w =>
    unfold doesM
    simp only
    split <;> exact Nat.le_succ _
theorem thruM_jn {ls : List LineD} : ∀ (l : List SD) (j : Nat) (t : Int) (d : MdD), (thruM ls l j t d).2.2.joined.length ≤ d.joined.length + l.length
  | [], _, _, _ => Nat.le_refl _
  | st :: r, j, t, d => by
    rw [thruM]
    split
    · have z := thruM_jn (ls := ls) r (j + 1) 0 (doesM ls d st).1
      have y := doesM_jn (ls := ls) (d := d) (st := st)
      simp only [List.length_cons]
      omega
    · simp
theorem goesM_jn {S : SetD} {d : MdD} {r : List CallD} {c : CallD} (ok : SetOk S) (h : d.calls = r ++ [c]) (hl : c.line ∈ S.ls) : (goesM S.ls d).joined.length ≤ d.joined.length + 8 := by
  rw [goesM_snoc h]
  have T := thruM_jn (ls := S.ls) (c.line.steps.drop c.step) c.step c.ticks d
  have l8 := (ok.ok.ok c.line hl).s8
  rw [List.length_drop] at T
  simp only
  split <;> (simp only; omega)
theorem rj_perm {ws : List WorkD} {rows jobs : List Rw} (h : RJ ws rows jobs) : rows.Perm jobs := by
  rw [List.perm_iff_count]
  intro a
  have z := h (rankOf ws a.1)
  have e : ∀ l : List Rw, l.count a = (l.filter fun x => decide (rankOf ws x.1 = rankOf ws a.1)).count a := fun l => (List.count_filter (by simp)).symm
  rw [e rows, e jobs, z]
theorem sub_len {S : SetD} (ok : SetOk S) {l : List Str} (h : SubS S l) : l.length ≤ 12 := by
  have z := (List.perm_ext_iff_of_nodup h.nd (ok.nd.sublist (List.filter_sublist (p := fun n => decide (n ∈ l))))).mpr fun n => by
    simp only [List.mem_filter, decide_eq_true_eq]
    exact ⟨fun m => ⟨h.sub n m, m⟩, fun m => m.2⟩
  rw [z.length_eq]
  exact Nat.le_trans (List.length_filter_le _ _) ok.len
theorem subI_len {l : List Int} (h : SubI l) : l.length ≤ 8 := by
  have nd : ((List.range 8).map fun i : Nat => (i : Int)).Nodup := by decide
  have z := (List.perm_ext_iff_of_nodup h.nd (nd.sublist (List.filter_sublist (p := fun n => decide (n ∈ l))))).mpr fun n => by
    simp only [List.mem_filter, decide_eq_true_eq]
    refine ⟨fun m => ⟨?_, m⟩, fun m => m.2⟩
    obtain ⟨f, hf, rfl⟩ := h.sub n m
    exact List.mem_map_of_mem (List.mem_range.mpr hf)
  rw [z.length_eq]
  exact Nat.le_trans (List.length_filter_le _ _) (by simp)
theorem RelQ.sz {S : SetD} {d : MdD} {b : BdD} {p : PrD} {n : Nat} (ok : SetOk S) (h : RelQ S d b p) (g : RwOk S.ws p.rows) (j : d.joined.length ≤ n + 36000) (hn : 16 ≤ n) : SzB n d := by
  have h1 := sub_len ok h.rb.se
  have h2 := sub_len ok h.rb.sh
  have h3 := sub_len ok h.rb.ss
  have h4 := subI_len h.rb.su
  have h5 := (rj_perm h.jobs).length_eq
  have h6 := g.len
  have h7 := ok.okw.le
  exact ⟨by omega, by omega, by omega, by omega, by omega, j⟩
theorem RelQ.ri {S : SetD} {d : MdD} {b : BdD} {p : PrD} (h : RelQ S d b p) (g : RwOk S.ws p.rows) : RowsIn S.ws d.jobs := fun r m => g.inn r ((rj_mem h.jobs).mpr m)
/-- going on through flags that are up: after some rounds -/
structure OnInv (S : SetD) (b1 : BdD) (p1 : PrD) (d1 : MdD) (k : Nat) (d : MdD) (b : BdD) (p : PrD) (evs : List Ev) : Prop where
  r : RelA S d b p
  g : GoodA S b p
  a : Asc p
  w : Fit S p
  f : onA S.ws p1.stack.length b1 p1 = ((onA S.ws k b p).1, (onA S.ws k b p).2.1, evs ++ (onA S.ws k b p).2.2)
  log : d.log = d1.log ++ evM d1.now evs
  now : d.now = d1.now
  en : p.stack.length ≤ k ∨ passes b p = false
  jn : d.joined.length + 8 * k ≤ d1.joined.length + 8 * p1.stack.length
theorem OnInv.start {S : SetD} {b1 : BdD} {p1 : PrD} {d1 : MdD} (r : RelA S d1 b1 p1) (g : GoodA S b1 p1) (a : Asc p1) (w : Fit S p1) : OnInv S b1 p1 d1 p1.stack.length d1 b1 p1 [] :=
  ⟨r, g, a, w, rfl, by simp [evM], rfl, .inl (Nat.le_refl _), Nat.le_refl _⟩
theorem OnInv.step {S : SetD} {b1 : BdD} {p1 : PrD} {d1 : MdD} {k : Nat} {d : MdD} {b : BdD} {p : PrD} {evs : List Ev} (ok : SetOk S) (h : OnInv S b1 p1 d1 k d b p evs) (e : passes b p = true) :
    ∃ k', k = k' + 1 ∧ OnInv S b1 p1 d1 k' (goesM S.ls d) (goA S.ws b p).1 (goA S.ws b p).2.1 (evs ++ (goA S.ws b p).2.2) := by
  obtain ⟨r, c, f, hst, hs⟩ := passes_top e
  have hk : p.stack.length ≤ k := h.en.resolve_right (by rw [e]; simp)
  cases k with
  | zero =>
    rw [hst] at hk
    simp at hk
  | succ k =>
    have hc : CallOk S c := h.g.calls c (by rw [hst]; simp)
    have ht : c.ticks = 0 := by
      rcases hc.st with ⟨n, z, _⟩ | ⟨f', z, t⟩
      · rw [hs] at z
        cases z
      · exact t
    have hlt : c.step ≤ c.line.steps.length := Nat.le_of_lt (List.getElem?_eq_some_iff.mp hs).1
    have hr : ∀ c' ∈ r, CallOk S c' := fun c' m => h.g.calls c' (by rw [hst]; simp [m])
    have G := goA_ok (b := b) ok hst hc.ln hlt ht hr h.g.rows.inn
    have R := go_rel ok h.r hst hc.ln ht h.g.rows
    have J := goesM_jn ok (h.r.calls.trans hst) hc.ln
    refine ⟨k, rfl, R.r, goA_good ok hst hc.ln hlt ht hr h.g.stk h.g.rows h.g.fl, goA_asc h.a, fit_go ok (fun c m => (h.g.calls c m).ln) h.w, ?_, ?_, R.now.trans h.now, ?_, ?_⟩
    · rw [h.f, onA_yes e, List.append_assoc]
    · rw [R.log, h.log, h.now]
      simp [evM]
    · rcases G.sl with ⟨z, _⟩ | ⟨z, _⟩
      · refine .inl ?_
        rw [z]
        rw [hst] at hk
        simp at hk
        omega
      · exact .inr z
    · have := h.jn
      omega
theorem OnInv.fin {S : SetD} {b1 : BdD} {p1 : PrD} {d1 : MdD} {k : Nat} {d : MdD} {b : BdD} {p : PrD} {evs : List Ev} (h : OnInv S b1 p1 d1 k d b p evs) (e : passes b p = false) : onA S.ws p1.stack.length b1 p1 = (b, p, evs) := by
  rw [h.f, onA_no e]
  simp
theorem tick_log {S : SetD} {b : BdD} {p : PrD} {d d1 d2 d3 : MdD} {e2 : List Ev} {b2 : BdD} {p2 : PrD}
    (r1 : StepRel S d d1 (takeA S.ws b p ((linesO S).filter (readyB b)))) (f : onA S.ws (takeA S.ws b p ((linesO S).filter (readyB b))).2.1.stack.length (takeA S.ws b p ((linesO S).filter (readyB b))).1 (takeA S.ws b p ((linesO S).filter (readyB b))).2.1 = (b2, p2, e2))
    (l2 : d2.log = d1.log ++ evM d1.now e2) (n2 : d2.now = d1.now) (r3 : StepRel S d2 d3 (spendA S.ws b2 p2)) :
    RelA S d3 (tickA S.ws S b p).1 (tickA S.ws S b p).2.1 ∧ d3.log = d.log ++ evM d.now (tickA S.ws S b p).2.2 ∧ d3.now = d.now := by
  unfold tickA
  simp only
  rw [f]
  refine ⟨r3.r, ?_, r3.now.trans (n2.trans r1.now)⟩
  rw [r3.log, l2, n2, r1.log, r1.now]
  simp [evM]
theorem takeA_evs {ws : List WorkD} {b : BdD} {p : PrD} {ls : List LineD} : (takeA ws b p ls).2.2.length ≤ 2 := by
  cases ls with
  | nil => simp [takeA]
  | cons l r =>
    unfold takeA
    by_cases e : l.rank > floorA p
    · simp only [e, if_true, List.length_cons]
      have := goA_evs (ws := ws) (b := beginB b l) (p := { p with stack := p.stack ++ [⟨l, 0, 0, p.bar⟩] })
      omega
    · simp [e]
theorem fit_tick {S : SetD} {b : BdD} {p : PrD} (ok : SetOk S) (g : GoodA S b p) (h : Fit S p) : Fit S (tickA S.ws S b p).2.1 := by
  have hrd : ∀ l ∈ (linesO S).filter (readyB b), l ∈ S.ls := fun l m => linesO_mem ok (List.mem_filter.mp m).1
  have hru : ∀ l ∈ (linesO S).filter (readyB b), b.und l.name = false := fun l m => by
    have z := (List.mem_filter.mp m).2
    unfold readyB at z
    simp at z
    exact z.2
  have G1 := takeA_good ok g hrd hru
  exact fit_spend ok (onA_good ok _ _ _ G1) (fit_on ok _ _ _ G1 (fit_take ok g hrd h))
theorem tickA_evs {S : SetD} {b : BdD} {p : PrD} (h : (takeA S.ws b p ((linesO S).filter (readyB b))).2.1.stack.length ≤ 12) : (tickA S.ws S b p).2.2.length ≤ 15 := by
  unfold tickA
  simp only [List.length_append]
  have a := takeA_evs (ws := S.ws) (b := b) (p := p) (ls := (linesO S).filter (readyB b))
  generalize takeA S.ws b p ((linesO S).filter (readyB b)) = z at a h ⊢
  have c := onA_evs (ws := S.ws) z.2.1.stack.length z.1 z.2.1
  have d := spendA_evs (ws := S.ws) (b := (onA S.ws z.2.1.stack.length z.1 z.2.1).1) (p := (onA S.ws z.2.1.stack.length z.1 z.2.1).2.1)
  omega
end Cb

namespace Cb
open PySem PySem.Spec PyProof.Rows L2

def cdD (c : CallD) : PyData := .tuple [.str c.line.name, .int (c.step : Nat), .int c.ticks, .int c.kept]
theorem cd_lay {c : CallD} (h : nameOk c.line.name) : PyData.canLay0 (cdD c) = true := by
  unfold cdD
  simp [PyData.canLay0, PyData.canLayAll0, sok h]
theorem cd_dep (c : CallD) : PyData.depth (cdD c) ≤ 2 := by
  unfold cdD
  simp [PyData.depth, PyData.depthAll]
theorem cds_dp {K : PySem.W.Frag} {H : Hp} : ∀ {cv : List V} {l : List CallD}, Paired (CallAt K H) cv l → DpAll K H cv (l.map cdD)
  | _, _, .nil => .nil
  | _, _, .cons ⟨t, e, h⟩ p => by
    subst e
    exact .cons (.tup h (.cons (.str _) (.cons (.int _) (.cons (.int _) (.cons (.int _) .nil))))) (cds_dp p)
theorem cds_lay : ∀ {l : List CallD}, (∀ c ∈ l, nameOk c.line.name) → PyData.canLayAll0 (l.map cdD) = true
  | [], _ => by simp [PyData.canLayAll0]
  | c :: l, h => by
    have z := cds_lay (l := l) fun u m => h u (List.mem_cons_of_mem _ m)
    rw [List.map_cons]
    unfold PyData.canLayAll0
    rw [z, cd_lay (h c List.mem_cons_self)]
    rfl
theorem cds_dep : ∀ l : List CallD, PyData.depthAll (l.map cdD) ≤ 2
  | [] => by simp [PyData.depthAll]
  | a :: l => by
    have h1 := cds_dep l
    have h2 := cd_dep a
    rw [List.map_cons]
    unfold PyData.depthAll
    omega
theorem cds_sh {l : List CallD} (h : ∀ c ∈ l, nameOk c.line.name) : SeqAt.shaped (.list (l.map cdD)) = true := by
  have := cds_dep l
  unfold SeqAt.shaped
  simp [PyData.canLay0, cds_lay h, PyData.depth]
  omega
theorem taking_jn {S : SetD} {d : MdD} (ok : SetOk S) (h : ∀ c ∈ d.calls, c.line ∈ S.ls) : (takingM S d).joined.length ≤ d.joined.length + 8 := by
  unfold takingM
  split
  · omega
  · rename_i l r e
    have hl := linesO_mem ok (List.mem_filter.mp (e ▸ List.mem_cons_self : l ∈ (linesO S).filter (readyM d))).1
    split
    · exact goesM_jn (d := beginM d l) (c := ⟨l, 0, 0, d.bar⟩) ok rfl hl
    · omega
def cntM (d : MdD) : Nat → MdD
  | 0 => { d with s0 := d.s0 + 1 }
  | 1 => { d with s1 := d.s1 + 1 }
  | 2 => { d with s2 := d.s2 + 1 }
  | _ => { d with s3 := d.s3 + 1 }
theorem OnInv.evl {S : SetD} {b1 : BdD} {p1 : PrD} {d1 : MdD} {k : Nat} {d : MdD} {b : BdD} {p : PrD} {evs : List Ev} (h : OnInv S b1 p1 d1 k d b p evs) : evs.length ≤ p1.stack.length := by
  have z := onA_evs (ws := S.ws) p1.stack.length b1 p1
  rw [h.f] at z
  simp only [List.length_append] at z
  omega
theorem cnt_run1 {d : MdD} {l : List CallD} : cntM { d with calls := l } 0 = { d with calls := l, s0 := d.s0 + 1 } := rfl
theorem work_rel {S : SetD} {d : MdD} {b : BdD} {p : PrD} {n : Str} {t : Int} {rest : List Rw} (h : RelA S d b p) (hst : p.stack = []) (hr : p.rows = (n, t) :: rest) (w : Fit S p) (C : CutJ S.ws d.jobs n t rest) : StepRel S d (cntM (workM S.ws d n t rest C) 2) (spendA S.ws b p) := by
  have R := spend_work h hst hr C
  have hw : t < lenOf S.ws n := w (n, t) (by rw [hr]; exact List.mem_cons_self)
  unfold workM
  by_cases e : t + 1 < lenOf S.ws n
  · rw [if_pos e] at R
    rw [if_neg (by omega)]
    exact R
  · rw [if_neg e] at R
    rw [if_pos (by omega)]
    exact R
theorem work_jn {ws : List WorkD} {d : MdD} {n : Str} {t : Int} {rest : List Rw} {C : CutJ ws d.jobs n t rest} : (workM ws d n t rest C).joined = d.joined := by
  unfold workM
  split <;> rfl
theorem RelA.nowx {S : SetD} {d : MdD} {b : BdD} {p : PrD} (h : RelA S d b p) (x : Int) : RelA S { d with now := x } b p := by
  obtain ⟨⟨hr, fl, hb, hj, s0, s1, s2, s3⟩, hc⟩ := h
  exact ⟨⟨⟨hr.edge, hr.high, hr.shut, hr.up, hr.se, hr.sh, hr.ss, hr.su⟩, fl, hb, hj, s0, s1, s2, s3⟩, hc⟩
section
variable {K0 H : Hp} {L : List (Addr × HO)} {a1 a2 a3 a4 a5 a6 a7 a8 : Addr × HO} {a : Addr} {x y : HO}
theorem Sep.c8' (s : Sep K0 H (a1 :: a2 :: a3 :: a4 :: a5 :: a6 :: a7 :: a8 :: (a, x) :: L)) : H a = some x := s.cs.2.2.2.2.2.2.2.2.1
theorem Sep.put8' (s : Sep K0 H (a1 :: a2 :: a3 :: a4 :: a5 :: a6 :: a7 :: a8 :: (a, x) :: L)) : Sep K0 (upd H a y) (a1 :: a2 :: a3 :: a4 :: a5 :: a6 :: a7 :: a8 :: (a, y) :: L) := Sep.put (L1 := [a1, a2, a3, a4, a5, a6, a7, a8]) s
end
def sp_law_tick (K : PySem.W.Frag) : Sp := fun vs H Q _ => ∃ (A : AdM) (S : SetD) (K0 : Hp) (d : MdD) (b : BdD) (p : PrD) (M : List (Addr × HO)), vs = [.ref A.m] ∧ OwnM K A S.ls S.ws K0 H d M ∧ SetOk S ∧ RelA S d b p ∧ GoodA S b p ∧ Asc p ∧ Fit S p ∧ d.log.length ≤ 9000 ∧ d.joined.length ≤ 39500 ∧
  ∀ K1 H' A' d', Same K0 K1 → A'.m = A.m → OwnM K A' S.ls S.ws K1 H' d' M → RelA S d' (tickA S.ws S b p).1 (tickA S.ws S b p).2.1 → d'.log = d.log ++ evM d.now (tickA S.ws S b p).2.2 → d'.now = d.now + 1 → d'.joined.length ≤ d.joined.length + 112 → Q .non H'

section
variable {P : Program} {w : World} {K : PySem.W.Frag} {mg : Str → Option Value} {base : Heap}

end
end Cb

/-! sorted of pairs of ints -/
namespace Cb
open PySem PySem.Spec PyProof.Rows L2
def lexII (p q : Int × Int) : Bool := if p.1 = q.1 then decide (p.2 < q.2) else decide (p.1 < q.1)
theorem intLt_asym {x y : Int} (h : decide (x < y) = true) : decide (y < x) = false := by
  simp at h ⊢
  omega
theorem intLt_tr {x y z : Int} (h1 : decide (y < x) = false) (h2 : decide (z < y) = false) : decide (z < x) = false := by
  simp at h1 h2 ⊢
  omega
theorem lexII_swo {α : Type} (k : α → Int × Int) : SrtO.Swo fun v u => lexII (k v) (k u) := by
  refine ⟨fun x y h => ?_, fun x y z h1 h2 => ?_⟩
  · unfold lexII at h ⊢
    by_cases e : (k x).1 = (k y).1
    · rw [if_pos e] at h
      rw [if_pos e.symm]
      exact intLt_asym h
    · rw [if_neg e, decide_eq_true_eq] at h
      rw [if_neg (Ne.symm e), decide_eq_false_iff_not]
      omega
  · unfold lexII at h1 h2 ⊢
    by_cases e1 : (k y).1 = (k x).1
    · rw [if_pos e1] at h1
      by_cases e2 : (k z).1 = (k y).1
      · rw [if_pos e2] at h2
        rw [if_pos (e2.trans e1)]
        exact intLt_tr h1 h2
      · rw [if_neg e2, decide_eq_false_iff_not] at h2
        rw [if_neg (by omega), decide_eq_false_iff_not]
        omega
    · rw [if_neg e1, decide_eq_false_iff_not] at h1
      by_cases e2 : (k z).1 = (k y).1
      · rw [if_neg (by omega), decide_eq_false_iff_not]
        omega
      · rw [if_neg e2, decide_eq_false_iff_not] at h2
        rw [if_neg (by omega), decide_eq_false_iff_not]
        omega
def IsII (h : Heap) (v : Value) (x : Int) (y : Int) : Prop := ∃ a o t u n, v = .ref a ∧ h.get? a = some o ∧ o.cls = .type "tuple" ∧ o.data = .seq #[.int x t, .int y u] n
theorem IsII.keeps {h h' : Heap} {v : Value} {x : Int} {y : Int} (p : IsII h v x y) (k : ∀ b o, h.get? b = some o → o.cls = .type "tuple" → h'.get? b = some o) : IsII h' v x y := by
  obtain ⟨a, o, t, u, n, e, ho, hc, hd⟩ := p
  exact ⟨a, o, t, u, n, e, k _ _ ho hc, hc, hd⟩
section
variable {prog : Program} {w : World} {A : Around} {E : Value → Shared → Prop} {s : Shared}
theorem cmp_II {vs : List Value} {k : Value → Int × Int} (hp : ∀ v ∈ vs, IsII s.heap v (k v).1 (k v).2) : SrtO.Cmp prog w A s (tuples' true) (fun p => p.1 ∈ vs) (SrtO.lt2 fun v u => lexII (k v) (k u)) := by
  intro p q hm hm'
  have g1 := hp _ hm
  have g2 := hp _ hm'
  show wpAny (model prog w) A (keyLt' (tuples' true) p.1 q.1) (fun r s' => s' = s ∧ r = lexII (k p.1) (k q.1)) (fun _ _ => False) s
  generalize k p.1 = kp at g1 ⊢
  generalize k q.1 = kq at g2 ⊢
  obtain ⟨x, y⟩ := kp
  obtain ⟨x', y'⟩ := kq
  obtain ⟨a, o, t, u, n, e, ho, hc, hd⟩ := g1
  obtain ⟨a', o', t', u', n', e', ho', hc', hd'⟩ := g2
  rw [e, e']
  refine PySem.W.kat_lt ho hd ho' hd' ?_
  show PySem.W.KatLex prog w A true (decide (2 < 2)) _ [(.int x t, .int x' t'), (.int y u, .int y' u')] 0 s
  refine PySem.W.kat_cons (SeqAt.EqAt.int_int x t x' t' prog w _ _ ?_)
  refine PySem.W.kat_go (fun e1 => ?_) (fun e1 => ?_)
  · obtain rfl : x = x' := by simpa using e1
    refine PySem.W.kat_yes (PySem.W.kat_cons (SeqAt.EqAt.int_int y u y' u' prog w _ _ ?_))
    refine PySem.W.kat_go (fun e2 => ?_) (fun e2 => ?_)
    · obtain rfl : y = y' := by simpa using e2
      refine PySem.W.kat_yes (PySem.W.kat_nil ⟨rfl, ?_⟩)
      unfold lexII
      rw [if_pos rfl]
      exact (decide_eq_false (Int.lt_irrefl _)).symm
    · refine PySem.W.kat_no (PySem.W.kat_one _ _ (PyProof.Rows.lt_int ?_))
      refine (show s = s ∧ decide (y < y') = _ from ⟨rfl, ?_⟩)
      unfold lexII
      exact (if_pos rfl).symm
  · have ex : ¬ x = x' := by simpa using e1
    refine PySem.W.kat_no (oneLt_int ⟨rfl, ?_⟩)
    unfold lexII
    exact (if_neg ex).symm
theorem firsts_II {h : Heap} : ∀ {vs : List Value}, (∀ v ∈ vs, ∃ x y, IsII h v x y) → ∃ fs, PySem.W.KatTups h vs fs ∧ fs.length = vs.length ∧ ∀ f ∈ fs, ∃ x t, f = Value.int x t
  | [], _ => ⟨[], .nil, rfl, fun _ z => nomatch z⟩
  | v :: vs, hv => by
    obtain ⟨x, y, a, o, t, u, n, rfl, ho, hc, hd⟩ := hv v List.mem_cons_self
    obtain ⟨fs, f1, f2, f3⟩ := firsts_II (vs := vs) fun z hz => hv z (List.mem_cons_of_mem _ hz)
    refine ⟨.int x t :: fs, .cons ho hc hd rfl f1, by simp [f2], fun f hf => ?_⟩
    rcases List.mem_cons.mp hf with z | z
    · exact ⟨x, t, z⟩
    · exact f3 f z
theorem sortable_II {a : Addr} {vs : List Value} {k : Value → Int × Int} (h0 : 0 < vs.length) (hp : ∀ v ∈ vs, IsII s.heap v (k v).1 (k v).2) (ha : ∀ o, s.heap.get? a = some o → o.cls ≠ .type "tuple") :
    SrtO.SortableO prog w A s a vs fun v u => lexII (k v) (k u) := by
  intro h' keep
  have hp' : ∀ v ∈ vs, IsII h' v (k v).1 (k v).2 := fun v hm => (hp v hm).keeps fun b o e c => keep b o (fun z => ha o (z ▸ e) c) e
  obtain ⟨fs, f1, f2, f3⟩ := firsts_II fun v hm => ⟨_, _, hp' v hm⟩
  refine ⟨tuples' true, fun Q E hq => ?_, cmp_II hp'⟩
  refine PySem.W.kat_kind (T := .type "int") f1 (by omega) (fun f hm => ?_) (by rfl) ?_
  · obtain ⟨x, t, rfl⟩ := f3 f hm
    exact PySem.W.Looks.now
  · rw [show (Value.type "int" != Value.type "tuple") = true by first | decide +kernel | rfl]
    exact hq
theorem sorted_II {l : Addr} {vs : List Value} {k : Value → Int × Int} {Q : Value → Shared → Prop} (hl : s.heap.IsList l vs.toArray) (hz : vs.length ≤ sizeLine) (hp : ∀ v ∈ vs, IsII s.heap v (k v).1 (k v).2)
    (h : ∀ (h' : Heap) (d : Addr) (out : List Value), SrtO.Srtd (fun v u => lexII (k v) (k u)) out → SrtO.Stb (fun v u => lexII (k v) (k u)) out vs → (∀ b o, s.heap.get? b = some o → h'.get? b = some o) → s.heap.objs.size ≤ d →
      (∃ n, h'.get? d = some (seqObj "list" out.toArray n)) → Q (.ref d) { s with heap := h' }) : wpAny (model prog w) A (call (.builtin "sorted") [.ref l]) Q E s := by
  refine SrtO.sorted_ord (lexII_swo k) hl hz (fun h2 h₁ a ha kk => ?_) fun out hs hb => h _ _ out hs hb (fun b o e => sortedAll_old e) (Nat.le_succ _) (sortedAll_at s.heap vs out.toArray)
  refine sortable_II (s := { s with heap := h₁ }) (by omega) (fun v hm => (hp v hm).keeps fun b o e _ => (kk b o e).2) fun o e => ?_
  cases (show some o = some (seqObj "list" vs.toArray 0) from e.symm.trans ha)
  intro c
  exact absurd (Value.type.inj c) (by decide)
end
/-- sorted(xs), xs a list of pairs of ints -/
def rSortII (K : PySem.W.Frag) : List V → Hp → VK → Prop := fun vs H Q => ∃ (a : Addr) (xs : List V) (k : V → Int × Int), vs = [V.ref a] ∧ SqL K H a xs ∧ (∀ x ∈ xs, ∃ t, x = V.ref t ∧ H t = some (.tup [.int (k x).1, .int (k x).2])) ∧
  ∀ ys p, SrtO.Srtd (fun v u => lexII (k v) (k u)) ys → SrtO.Stb (fun v u => lexII (k v) (k u)) ys xs → H p = none → Q (.ref p) (upd H p (.lst ys))
theorem cr_sortII {X : Cx} : CallR X (.builtin "sorted") (rSortII X.K) := by
  intro pins s σ H vs us Q I r h
  obtain ⟨a, xs, k, rfl, hs, hx, q⟩ := h
  obtain ⟨its, rv, hl, hz⟩ := I.list hs
  obtain ⟨u, rfl, ru⟩ := vals1 r
  obtain rfl : u = Value.ref a := ru
  obtain ⟨e1, e2⟩ := refs_back rv fun x m => by
    obtain ⟨t, e, _⟩ := hx x m
    exact ⟨t, e⟩
  have hzz : its.length ≤ sizeLine := by
    rw [← rv.length]
    exact hz
  refine sorted_II (k := fun u => k (backV u)) hl.isList hzz (fun v hv => ?_) fun h' d out o1 o2 kp hd hn => ?_
  · obtain ⟨t, rfl⟩ := e2 v hv
    have hm : V.ref t ∈ xs := by
      rw [e1]
      exact List.mem_map.mpr ⟨_, hv, rfl⟩
    obtain ⟨t', e, ht⟩ := hx _ hm
    cases e
    obtain ⟨_, its2, r2, o, ho, hc, n, hd⟩ := I.hok _ _ ht
    obtain ⟨u1, u2, rfl, ri, rj⟩ := vals2 r2
    obtain ⟨t1, rfl⟩ := ri
    obtain ⟨t2, rfl⟩ := rj
    exact ⟨t, o, t1, t2, n, rfl, ho, hc, hd⟩
  · have h3 : ∀ u ∈ out, ∃ a, u = Value.ref a := fun u hu => e2 u (o2.perm.mem_iff.mp hu)
    obtain ⟨n, hn⟩ := hn
    have hb : SrtO.Stb (fun v u => lexII (k v) (k u)) (out.map backV) xs := by
      rw [e1]
      exact SrtO.Stb.map (lexII_swo k) backV o2
    have hlen : (out.map backV).length ≤ sizeLine := by
      rw [hb.len]
      exact hz
    exact ⟨.ref d, upd H d (.lst (out.map backV)), I.laid (t' := s.toks) kp hd ⟨hlen, out, n, vals_back h3, hn⟩, rfl, q _ d (SrtO.srtd_map o1) hb (I.hok.fresh hd)⟩
end Cb

namespace Cb
open PySem PySem.Spec PyProof.Rows L2

theorem same_none {H H' : Hp} {a : Addr} (g : Same H H') (h : H' a = none) : H a = none := by
  cases q : H a with
  | none => rfl
  | some o =>
    have := g _ _ q
    rw [h] at this
    cases this
theorem see_del {K : PySem.W.Frag} {K0 H : Hp} {A : AdM} {d : MdD} {ls : List LineD} {ws : List WorkD} {M : List (Addr × HO)} {kvs : List (Key × V)} (h : OwnM K A ls ws K0 H d M) (hd : K0 A.ld = some (.dK kvs)) : SeeM K (del H A.ld) A d := by
  obtain ⟨cv, jv, gv, h1, h2, h3, sp⟩ := h.ex
  have hdH := sp.ext _ _ hd
  have ne : ∀ x ∈ adrs (layM A d cv jv gv M), x ≠ A.ld := fun x m e => by
    have := sp.fr x m
    rw [e, hd] at this
    cases this
  have go : ∀ x o, x ≠ A.ld → H x = some o → del H A.ld x = some o := fun x o n z => by
    unfold del
    rw [if_neg n]
    exact z
  exact ⟨go _ _ (ne _ (by simp [adrs, layM])) sp.c0, go _ _ (ne _ (by simp [adrs, layM])) sp.c1, go _ _ (ne _ (by simp [adrs, layM])) sp.c2, go _ _ (ne _ (by simp [adrs, layM])) sp.c3, cv, go _ _ (ne _ (by simp [adrs, layM])) sp.c5, h1.mono fun _ _ z => CallAt.del hdH (CallAt.up sp.ext z)⟩
def keyII (K' : Hp) : V → Int × Int
  | .ref t => match K' t with
    | some (.tup [.int i, .int s]) => (i, s)
    | _ => (0, 0)
  | _ => (0, 0)
theorem keyII_at {K' : Hp} {t : Addr} {i s : Int} (h : K' t = some (.tup [.int i, .int s])) : keyII K' (.ref t) = (i, s) := by
  unfold keyII
  simp [h]
def jobD (jobs : List Rw) (k : Nat) : Rw := jobs.getD k ("", 0)
def rkJ (ws : List WorkD) (jobs : List Rw) (k : Nat) : Int := rankOf ws (jobD jobs k).1
def RankK (ws : List WorkD) (jobs : List Rw) (K' : Hp) (v : V) (k : Nat) : Prop := ∃ t, v = .ref t ∧ K' t = some (.tup [.int (0 - rkJ ws jobs k), .int (k : Nat)])
theorem rankK_key {ws : List WorkD} {jobs : List Rw} {K' : Hp} {acc : List V} {ns : List Nat} (p : Paired (RankK ws jobs K') acc ns) {v : V} (m : v ∈ acc) : ∃ k ∈ ns, ∃ t, v = .ref t ∧ K' t = some (.tup [.int (0 - rkJ ws jobs k), .int (k : Nat)]) ∧ keyII K' v = (0 - rkJ ws jobs k, ((k : Nat) : Int)) := by
  obtain ⟨i, hi⟩ := List.mem_iff_getElem?.mp m
  obtain ⟨n, hn, t, rfl, h⟩ := pget p hi
  exact ⟨n, List.mem_of_getElem? hn, t, rfl, h, keyII_at h⟩
theorem rankK_nums {ws : List WorkD} {jobs : List Rw} {K' : Hp} : ∀ {acc : List V} {ns : List Nat}, Paired (RankK ws jobs K') acc ns → acc.map (fun v => (keyII K' v).2.toNat) = ns
  | _, _, .nil => rfl
  | _, _, .cons ⟨t, e, h⟩ p => by
    subst e
    rw [List.map_cons, rankK_nums p, keyII_at h]
    rfl
theorem queue_rows {ws : List WorkD} {rows jobs : List Rw} (hj : RJ ws rows jobs) (srt : rows.Pairwise fun a b => rankOf ws b.1 ≤ rankOf ws a.1) {ks : List Nat} (pm : ks.Perm (List.range jobs.length)) (sd : ks.Pairwise fun a b => lexII (0 - rkJ ws jobs b, ((b : Nat) : Int)) (0 - rkJ ws jobs a, ((a : Nat) : Int)) = false) : ks.map (jobD jobs) = rows := by
  have e4 : (List.range jobs.length).map (jobD jobs) = jobs := by
    apply List.ext_getElem
    · simp
    · intro i h1 h2
      simp [jobD, List.getD_eq_getElem?_getD, List.getElem?_eq_getElem h2]
  refine (rows_uniq (fun r => ?_) srt ?_).symm
  · rw [hj r]
    rw [List.filter_map]
    have e2 : ks.filter ((fun x : Rw => decide (rankOf ws x.1 = r)) ∘ jobD jobs) = (List.range jobs.length).filter ((fun x : Rw => decide (rankOf ws x.1 = r)) ∘ jobD jobs) := by
      refine List.Perm.eq_of_pairwise (le := (· ≤ ·)) (fun a b _ _ h1 h2 => Nat.le_antisymm h1 h2) ?_ ?_ (pm.filter _)
      · refine (sd.sublist List.filter_sublist).imp_of_mem fun {a b} ha hb h => ?_
        have h1 := of_decide_eq_true (List.mem_filter.mp ha).2
        have h2 := of_decide_eq_true (List.mem_filter.mp hb).2
        unfold lexII rkJ at h
        simp only [h1, h2, if_true, decide_eq_false_iff_not] at h
        omega
      · exact (List.pairwise_le_range).sublist List.filter_sublist
    rw [e2, ← List.filter_map, e4]
  · rw [List.pairwise_map]
    refine sd.imp fun {a b} h => ?_
    unfold lexII rkJ at h
    simp only at h
    split at h
    · omega
    · have := of_decide_eq_false h
      omega
theorem upF_mem {b : BdD} {x : Int} : x ∈ upF b ↔ ∃ f : Nat, f < 8 ∧ b.fl.getD f false = true ∧ x = (f : Int) := by
  unfold upF
  simp only [List.mem_map, List.mem_filter, List.mem_range]
  constructor
  · rintro ⟨f, ⟨h1, h2⟩, rfl⟩
    exact ⟨f, h1, h2, rfl⟩
  · rintro ⟨f, h1, h2, rfl⟩
    exact ⟨f, ⟨h1, h2⟩, rfl⟩
theorem upF_srt {b : BdD} : (upF b).Pairwise (· < ·) := by
  unfold upF
  rw [List.pairwise_map]
  exact ((List.pairwise_lt_range).sublist List.filter_sublist).imp fun {a c} h => by omega
theorem up_uniq {S : SetD} {d : MdD} {b : BdD} (h : RelB S d b) {ns : List Int} (pm : ns.Perm d.up) (sd : ns.Pairwise (· ≤ ·)) : ns = upF b := by
  refine List.Perm.eq_of_pairwise (le := (· ≤ ·)) (fun a c _ _ h1 h2 => Int.le_antisymm h1 h2) sd (upF_srt.imp fun {a c} h => by omega) (pm.trans ?_)
  refine (List.perm_ext_iff_of_nodup h.su.nd (upF_srt.imp fun {a c} h e => by omega)).mpr fun x => ?_
  rw [upF_mem]
  constructor
  · intro m
    obtain ⟨f, hf, rfl⟩ := h.su.sub x m
    exact ⟨f, hf, by rw [← h.up f hf]; exact decide_eq_true m, rfl⟩
  · rintro ⟨f, hf, e, rfl⟩
    rw [← h.up f hf] at e
    exact of_decide_eq_true e
theorem in_filter {S : SetD} (ok : SetOk S) {l : List Str} {f : LineD → Bool} (h : ∀ x ∈ S.ls, decide (x.name ∈ l) = f x) : (S.order.filter fun n => decide (n ∈ l)).map V.str = nmsV ((linesO S).filter f) := by
  rw [filter_linesO ok]
  unfold nmsV
  rw [List.map_map]
  refine congrArg (List.map _) (List.filter_congr fun x m => h x (linesO_mem ok m))
def sp_law_shown (K : PySem.W.Frag) : Sp := fun vs H Q _ => ∃ (A : AdM) (S : SetD) (K0 : Hp) (d : MdD) (b : BdD) (p : PrD) (M : List (Addr × HO)), vs = [.ref A.m] ∧ OwnM K A S.ls S.ws K0 H d M ∧ SetOk S ∧ RelA S d b p ∧ GoodA S b p ∧
  ∀ pp H' xs, Same H H' → H pp = none → H' pp = some (.lst xs) → SeenAt K H' xs S b p d.now → Q (.ref pp) H'

section
variable {P : Program} {w : World} {K : PySem.W.Frag} {mg : Str → Option Value} {base : Heap}

end
end Cb

namespace Cb
open PySem PySem.Spec PyProof.Rows L2

def dueV (ls : List LineD) (d : MdD) (st : SD) : V := match st with
  | .ring n => .str (if (doesM ls d (.ring n)).2 = true then "waits" else "merged")
  | s => .bl (doesM ls d s).2
theorem due_rel {S : SetD} {d : MdD} {b : BdD} {st : SD} (ok : SetOk S) (h : RelB S d b) (so : StepOk S.ls S.ws st) (dd : st.deed = true) : dueV S.ls d st = doneV b st := by
  cases st with
  | ring n =>
    obtain ⟨l, hl, rfl⟩ := so
    have h1 := h.edge l hl
    have h2 := h.high l hl
    show V.str (if (doesM S.ls d (.ring l.name)).2 = true then "waits" else "merged") = V.str (if b.rung l.name = true then "merged" else "waits")
    rw [doesM_ring, lvlOf_eq ok.ok.nd hl]
    cases hv : l.lvl
    · rw [hv] at h1 h2
      simp only [Bool.false_eq_true, if_false]
      rw [h1]
      cases b.rung l.name <;> rfl
    · rw [hv] at h1 h2
      simp only [if_true]
      rw [h2]
      cases b.rung l.name <;> rfl
  | quiet n =>
    obtain ⟨l, hl, rfl, hv⟩ := so
    have h2 := h.high l hl
    show V.bl (decide (l.name ∈ d.high)) = V.bl (b.rung l.name)
    rw [h2, hv, Bool.and_true]
  | mask n =>
    obtain ⟨l, hl, rfl⟩ := so
    show V.bl (!decide (l.name ∈ d.shut)) = V.bl (!b.dis l.name)
    rw [h.shut l hl]
  | unmask n =>
    obtain ⟨l, hl, rfl⟩ := so
    show V.bl (decide (l.name ∈ d.shut)) = V.bl (b.dis l.name)
    rw [h.shut l hl]
  | setf f =>
    have so : f ≤ 7 := so
    show V.bl (!decide ((f : Int) ∈ d.up)) = V.bl (!b.fl.getD f false)
    rw [h.up f (by omega)]
  | clearf f =>
    have so : f ≤ 7 := so
    show V.bl (decide ((f : Int) ∈ d.up)) = V.bl (b.fl.getD f false)
    rw [h.up f (by omega)]
  | _ => cases dd
def sp_law_due (K : PySem.W.Frag) : Sp := fun vs H Q _ => ∃ (A : AdM) (ls : List LineD) (ws : List WorkD) (K0 : Hp) (d : MdD) (M : List (Addr × HO)) (t : Addr) (st : SD), vs = [.ref A.m, .ref t] ∧ OwnM K A ls ws K0 H d M ∧ LsOk ls ∧ WsOk ws ∧ SqT K K0 t [.str st.word, st.arg] ∧ StepOk ls ws st ∧ st.deed = true ∧ RowsIn ws d.jobs ∧ SzM d ∧
  ∀ K1 H' A', Same K0 K1 → A'.m = A.m → OwnM K A' ls ws K1 H' (doesM ls d st).1 M → Q (dueV ls d st) H'
def sp_law_deed (K : PySem.W.Frag) : Sp := fun vs H Q _ => ∃ (row sc : Addr) (ns : List Int) (A : AdM) (S : SetD) (ws : List WorkD) (K0 : Hp) (d : MdD) (M : List (Addr × HO)), vs = [.ref row, .ref A.m] ∧ SetOk S ∧ SqL K K0 sc (ns.map V.int) ∧ Dr K0 H row sc M ∧ (A.m, .dK (mdK A d)) ∈ M ∧ TabsAt K K0 A S.ls ws ∧
  ∀ K1 H' t st, Same K0 K1 → Dr K1 H' row sc M → SqT K K1 t [.str st.word, st.arg] → StepOk S.ls S.ws st → st.deed = true → Q (.ref t) H'
theorem OwnM.ext {K : PySem.W.Frag} {A : AdM} {ls : List LineD} {ws : List WorkD} {K0 H : Hp} {d : MdD} {M : List (Addr × HO)} (h : OwnM K A ls ws K0 H d M) : Same K0 H := by
  obtain ⟨cv, jv, gv, h1, h2, h3, h4⟩ := h.ex
  exact h4.ext
theorem Dr.mem {K' H : Hp} {row sc : Addr} {M : List (Addr × HO)} (d : Dr K' H row sc M) {e : Addr × HO} (m : e ∈ M) : H e.1 = some e.2 := by
  obtain ⟨i, g, x, hi, hg, sp⟩ := d
  exact sp.cs.mem _ (List.mem_cons_of_mem _ m)

section
variable {P : Program} {w : World} {K : PySem.W.Frag} {mg : Str → Option Value} {base : Heap}

abbrev N_law_deed : List Str := ["_law_row", "_law_m", "_law_names", "_law_levels", "_law_name", "_law_word"]
theorem sc_law_deed : FnScope N_law_deed ["_law_row", "_law_m"] (C8.fnScope s_law_deed) := C8.fnScope_by (by decide +kernel)
theorem ok_law_deed {fd : FuncData} (T : Txt K mg) (F : FunD K "_law_deed" "_law_deed" (C8.fnArgs s_law_deed) (C8.fnBody s_law_deed) (C8.fnScope s_law_deed) [] [] (He.ga K "_law_deed") fd) (c__law_taken : C8.Cal P w K mg base 1 "_law_taken" (sp_law_taken K) []) :
    C8.Cal P w K mg base 2 "_law_deed" (sp_law_deed K) [] := by
  refine C8.cal0 (ds := []) ⟨fun_c8 F, T.f__law_deed, F.kp⟩ (F.bindsN fun _ _ _ _ _ _ us hl => match us, hl with | [_, _], _ => rfl) .nil sc_law_deed (fun vs H Q E h => ?_) (fun cdv A outer s H vs Q E hr h => ?_)
  · obtain ⟨_, _, _, _, _, _, _, _, _, rfl, _⟩ := h
    rfl
  · have nd := sc_law_deed.nd
    have hu := hu_of hr
    obtain ⟨row, sc, ns, A, S, ws, K0, d, M, rfl, ok, hsc, hdr, hmm, tb, q⟩ := h
    refine ⟨_, (pss_cons (ps_set (i := 2) nd rfl (Or.inl rfl) (pe_callB (call_sortedD rfl) (by rfl) T.n_sorted (by decide +kernel) (pa_cons (pe_dget hu (pv 1) pe_str (fun _ _ => rfl)) pa_nil)))
      (pss_cons (ps_setLc (i := 3) (own := [("_law_name", 4)]) rfl nd rfl rfl (sw_true rfl rfl rfl (by decide +kernel)) (pi_list (pv 2)) (blkOk_by (own := [("_law_name", 4)]) (N := N_law_deed) (sc := (C8.fnScope s_law_deed)) (by decide +kernel)) (fun _ _ _ _ _ => (pg_name (i := 4) nd rfl (Or.inl rfl))) (fun _ _ _ _ _ => (pts_one (pt_cmpR op_eq (pe_ix (ix_tup : IxR _ (rIxT K)) (pe_dget hu (pe_dget hu (pv 1) pe_str (fun _ _ => rfl)) (pv 4) (fun _ _ => rfl)) pe_int (fun _ _ => rfl)) pe_str (nomark _)))) (fun _ _ _ _ _ => (pv 4)))
      (pss_cons (ps_set (i := 5) nd rfl (Or.inl rfl) (pe_ix ix_list (pe_lst (pa_cons pe_str (pa_cons pe_str (pa_cons pe_str (pa_cons pe_str (pa_cons pe_str (pa_cons pe_str (pa_cons pe_str (pa_cons pe_str (pa_cons pe_str (pa_cons pe_str pa_nil))))))))))) (C8.pe_c c__law_taken hr (by decide) rfl (pa_cons (pv 0) (pa_cons pe_int pa_nil))) (fun _ _ => rfl)))
      (pss_cons (ps_if (pt_cmpR op_in_seq (pv 5) (pe_tup (pa_cons pe_str (pa_cons pe_str pa_nil))) (by rfl)) (pss_one (ps_ret (pe_tup (pa_cons (pv 5) (pa_cons (C8.pe_c c__law_taken hr (by decide) rfl (pa_cons (pv 0) (pa_cons pe_int pa_nil))) pa_nil))))) pss_nil)
      (pss_cons (ps_if (PW.pt (pw_and (pt_cmpR op_eq (pv 5) pe_str (nomark _)) (pw_and1 (pt_cmpR (op_neD (hu64_of hr)) (pv 3) (pe_lst pa_nil) (nomark _))))) (pss_one (ps_ret (pe_tup (pa_cons (pv 5) (pa_cons (pe_ix ix_list (pv 3) (C8.pe_c c__law_taken hr (by decide) rfl (pa_cons (pv 0) (pa_cons (pe_callB call_len_seq (by rfl) T.n_len (by decide +kernel) (pa_cons (pv 3) pa_nil)) pa_nil))) (fun _ _ => rfl)) pa_nil))))) pss_nil)
      (pss_one (ps_ret (pe_tup (pa_cons (pe_ix ix_list (pe_lst (pa_cons pe_str (pa_cons (pv 5) pa_nil))) (pe_callTy call_int1 (by rfl) T.n_int (by decide +kernel) (pa_cons (pe_cmpR op_ne (pv 5) pe_str (nomark _)) pa_nil)) (fun _ _ => rfl)) (pa_cons (pe_ix ix_list (pv 2) (C8.pe_c c__law_taken hr (by decide) rfl (pa_cons (pv 0) (pa_cons (pe_callB call_len_seq (by rfl) T.n_len (by decide +kernel) (pa_cons (pv 2) pa_nil)) pa_nil))) (fun _ _ => rfl)) pa_nil)))))))))), ?_⟩
    obtain ⟨xs, hld, hxs⟩ := id tb.l
    have hm := hdr.mem hmm
    have l12 := ok.ok.le
    refine ⟨_, rfl, _, _, rfl, mg_lines hm, A.ld, _, S.ls.map (·.name), rfl, .inl (hdr.ext _ _ hld), by rw [byN_keys hxs.length, List.map_map]; rfl, by rw [List.length_map]; omega, fun ys p pm srt hp => ?_⟩
    have k1 := hdr.keep (o := .lst (ys.map V.str)) hp
    have hp0 : upd K0 p (.lst (ys.map V.str)) p = some (.lst (ys.map V.str)) := upd_same
    revert k1 hp0
    generalize upd K0 p (.lst (ys.map V.str)) = K1
    rintro ⟨d1, g1⟩ hp0
    have hyl : ys.length = S.ls.length := by rw [pm.length_eq, List.length_map]
    have hne := ok.ok.ne
    have hy0 : 0 < ys.length := by
      rw [hyl]
      exact List.length_pos_iff.mpr hne
    have hys : ∀ s ∈ ys, ∃ l ∈ S.ls, l.name = s := fun s m => List.mem_map.mp (pm.mem_iff.mp m)
    have sc1 := Same.lst g1 hsc
    have hld1 := g1 _ _ hld
    have hxs1 := hxs.mono fun _ _ z => LineAt.up g1 z
    refine ⟨_, rfl, _, rfl, ⟨_, l_of (d1.ext _ _ hp0)⟩, fun D hD => ?_⟩
    refine lc_it (walk_list (xs := ys.map V.str)) (fun i H' => ∃ lvs : List Str, Dr K1 H' row sc ((D, .lst (lvs.map V.str)) :: M) ∧ lvs.length ≤ i ∧ ∀ s ∈ lvs, ∃ l ∈ S.ls, l.name = s ∧ l.lvl = true) ⟨[], d1.own hD, Nat.le_refl _, fun _ m => nomatch m⟩ ?_ ?_ ?_
    · rintro i H' _ ⟨lvs, e, _⟩
      exact l_of (e.ext _ _ hp0)
    · rintro i v H1 H2 hi ⟨lvs, e, hll, hlv⟩ ⟨rfl, e2⟩
      rw [List.length_map] at hi
      rw [List.getElem?_map] at e2
      obtain ⟨s, hs, rfl⟩ := Option.map_eq_some_iff.mp e2
      obtain ⟨l, hl, rfl⟩ := hys s (List.mem_of_getElem? hs)
      obtain ⟨j, hj⟩ := List.mem_iff_getElem?.mp hl
      obtain ⟨v, hv, a1, g1', hs1, rfl, hb, _⟩ := pgetr hxs1 hj
      refine ⟨rfl, _, rfl, _, _, rfl, mg_lines (e.mem (List.mem_cons_of_mem _ hmm)), _, rfl, _, _, rfl, byN_at ok.ok.nd hj hv ▸ DGet.k (k := .inr l.name) (e.ext _ _ hld1), ?_⟩
      refine ⟨_, _, _, _, rfl, rfl, Same.tup e.ext hb, rfl, rfl, l.lvl, ?_, ?_⟩
      · cases l.lvl <;> rfl
      cases hvv : l.lvl with
      | true =>
        refine iteT ⟨_, rfl, _, e.at0, ?_, lvs ++ [l.name], ?_, by simp; omega, fun s m => ?_⟩
        · exact sml (m := 12) (by rw [List.length_map]; omega) (by decide)
        · rw [List.map_append]
          exact e.put
        · rcases List.mem_append.mp m with m | m
          · exact hlv s m
          · obtain rfl := List.mem_singleton.mp m
            exact ⟨l, hl, rfl, hvv⟩
      | false => exact iteF ⟨lvs, e, Nat.le_succ_of_le hll, hlv⟩
    rintro H3 ⟨lvs, d2, hll, hlvs⟩
    rw [List.length_map] at hll
    have k2 := d2.freeze
    have hlv1 : upd K1 D (.lst (lvs.map V.str)) D = some (.lst (lvs.map V.str)) := upd_same
    revert k2 hlv1
    generalize upd K1 D (.lst (lvs.map V.str)) = K2
    rintro ⟨d3, g2'⟩ hlv1
    have g2 := Same.tr g1 g2'
    have hp1 := g2' _ _ hp0
    have sc2 := Same.lst g2' sc1
    have hlo : ∀ x ∈ lvs, nameOk x := fun x m => by
      obtain ⟨l, hl, rfl, _⟩ := hlvs x m
      exact (ok.ok.ok l hl).nm
    refine ⟨Nat.le_of_lt (sml (m := 20) (by simp) (by decide)), fun wp hwp => ?_⟩
    have d3' := d3.own (o := .lst [.str "ring", .str "ring", .str "ring", .str "ring", .str "quiet", .str "mask", .str "unmask", .str "unmask", .str "set", .str "clear"]) hwp
    refine takenV (v := 0) rfl (by decide) (by decide) sc2 d3' fun H4 r r0 r1 d4 => ?_
    have hk : r = 0 ∨ r = 1 ∨ r = 2 ∨ r = 3 ∨ r = 4 ∨ r = 5 ∨ r = 6 ∨ r = 7 ∨ r = 8 ∨ r = 9 := by omega
    rcases hk with rfl | rfl | rfl | rfl | rfl | rfl | rfl | rfl | rfl | rfl
    · refine ⟨_, _, _, _, rfl, rfl, l_of d4.at0, rfl, ?_⟩
      have d5 := d4.tail
      refine ⟨_, rfl, small8 (by simp), fun tm2 htm2 => ?_⟩
      have m2 := d5.drop (o := .tup [.str "set", .str "clear"]) htm2
      refine ⟨_, _, rfl, .inr (t_of upd_same), rfl, rfl, false, rfl, iteF ?_⟩
      refine ⟨_, rfl, rfl, false, rfl, iteF (iteF ?_)⟩
      refine ⟨_, rfl, small8 (by simp), fun rw hrw => ?_⟩
      have y1 := m2.own (o := .lst [.str "ring", .str "ring"]) hrw
      refine ⟨_, rfl, rfl, .inr ⟨true, rfl, ?_⟩⟩
      refine ⟨_, _, _, _, rfl, rfl, l_of y1.at0, rfl, _, rfl, ?_⟩
      have y2 := y1.tail
      refine takenQ (v := 0) (((ys.map V.str).length : Nat) : Int) rfl (fun Q' h => ⟨_, rfl, _, _, rfl, .inl (l_of (y2.ext _ _ hp1)), h⟩) (by rw [List.length_map]; omega) (by rw [List.length_map]; omega) sc2 y2 fun H5 rr k0 k1 e1 => ?_
      obtain ⟨s, hs, hat⟩ := str_at (l := ys) k0 (by rw [List.length_map] at k1; exact k1)
      refine ⟨_, _, _, _, rfl, rfl, l_of (e1.ext _ _ hp1), hat, small8 (by simp), fun t ht => ?_⟩
      obtain ⟨lx, hlx, rfl⟩ := hys s hs
      exact q _ _ t (.ring lx.name) (Same.tr g2 (e1.keep ht).2) (e1.keep ht).1 (t_of upd_same) ⟨lx, hlx, rfl⟩ rfl
    · refine ⟨_, _, _, _, rfl, rfl, l_of d4.at0, rfl, ?_⟩
      have d5 := d4.tail
      refine ⟨_, rfl, small8 (by simp), fun tm2 htm2 => ?_⟩
      have m2 := d5.drop (o := .tup [.str "set", .str "clear"]) htm2
      refine ⟨_, _, rfl, .inr (t_of upd_same), rfl, rfl, false, rfl, iteF ?_⟩
      refine ⟨_, rfl, rfl, false, rfl, iteF (iteF ?_)⟩
      refine ⟨_, rfl, small8 (by simp), fun rw hrw => ?_⟩
      have y1 := m2.own (o := .lst [.str "ring", .str "ring"]) hrw
      refine ⟨_, rfl, rfl, .inr ⟨true, rfl, ?_⟩⟩
      refine ⟨_, _, _, _, rfl, rfl, l_of y1.at0, rfl, _, rfl, ?_⟩
      have y2 := y1.tail
      refine takenQ (v := 0) (((ys.map V.str).length : Nat) : Int) rfl (fun Q' h => ⟨_, rfl, _, _, rfl, .inl (l_of (y2.ext _ _ hp1)), h⟩) (by rw [List.length_map]; omega) (by rw [List.length_map]; omega) sc2 y2 fun H5 rr k0 k1 e1 => ?_
      obtain ⟨s, hs, hat⟩ := str_at (l := ys) k0 (by rw [List.length_map] at k1; exact k1)
      refine ⟨_, _, _, _, rfl, rfl, l_of (e1.ext _ _ hp1), hat, small8 (by simp), fun t ht => ?_⟩
      obtain ⟨lx, hlx, rfl⟩ := hys s hs
      exact q _ _ t (.ring lx.name) (Same.tr g2 (e1.keep ht).2) (e1.keep ht).1 (t_of upd_same) ⟨lx, hlx, rfl⟩ rfl
    · refine ⟨_, _, _, _, rfl, rfl, l_of d4.at0, rfl, ?_⟩
      have d5 := d4.tail
      refine ⟨_, rfl, small8 (by simp), fun tm2 htm2 => ?_⟩
      have m2 := d5.drop (o := .tup [.str "set", .str "clear"]) htm2
      refine ⟨_, _, rfl, .inr (t_of upd_same), rfl, rfl, false, rfl, iteF ?_⟩
      refine ⟨_, rfl, rfl, false, rfl, iteF (iteF ?_)⟩
      refine ⟨_, rfl, small8 (by simp), fun rw hrw => ?_⟩
      have y1 := m2.own (o := .lst [.str "ring", .str "ring"]) hrw
      refine ⟨_, rfl, rfl, .inr ⟨true, rfl, ?_⟩⟩
      refine ⟨_, _, _, _, rfl, rfl, l_of y1.at0, rfl, _, rfl, ?_⟩
      have y2 := y1.tail
      refine takenQ (v := 0) (((ys.map V.str).length : Nat) : Int) rfl (fun Q' h => ⟨_, rfl, _, _, rfl, .inl (l_of (y2.ext _ _ hp1)), h⟩) (by rw [List.length_map]; omega) (by rw [List.length_map]; omega) sc2 y2 fun H5 rr k0 k1 e1 => ?_
      obtain ⟨s, hs, hat⟩ := str_at (l := ys) k0 (by rw [List.length_map] at k1; exact k1)
      refine ⟨_, _, _, _, rfl, rfl, l_of (e1.ext _ _ hp1), hat, small8 (by simp), fun t ht => ?_⟩
      obtain ⟨lx, hlx, rfl⟩ := hys s hs
      exact q _ _ t (.ring lx.name) (Same.tr g2 (e1.keep ht).2) (e1.keep ht).1 (t_of upd_same) ⟨lx, hlx, rfl⟩ rfl
    · refine ⟨_, _, _, _, rfl, rfl, l_of d4.at0, rfl, ?_⟩
      have d5 := d4.tail
      refine ⟨_, rfl, small8 (by simp), fun tm2 htm2 => ?_⟩
      have m2 := d5.drop (o := .tup [.str "set", .str "clear"]) htm2
      refine ⟨_, _, rfl, .inr (t_of upd_same), rfl, rfl, false, rfl, iteF ?_⟩
      refine ⟨_, rfl, rfl, false, rfl, iteF (iteF ?_)⟩
      refine ⟨_, rfl, small8 (by simp), fun rw hrw => ?_⟩
      have y1 := m2.own (o := .lst [.str "ring", .str "ring"]) hrw
      refine ⟨_, rfl, rfl, .inr ⟨true, rfl, ?_⟩⟩
      refine ⟨_, _, _, _, rfl, rfl, l_of y1.at0, rfl, _, rfl, ?_⟩
      have y2 := y1.tail
      refine takenQ (v := 0) (((ys.map V.str).length : Nat) : Int) rfl (fun Q' h => ⟨_, rfl, _, _, rfl, .inl (l_of (y2.ext _ _ hp1)), h⟩) (by rw [List.length_map]; omega) (by rw [List.length_map]; omega) sc2 y2 fun H5 rr k0 k1 e1 => ?_
      obtain ⟨s, hs, hat⟩ := str_at (l := ys) k0 (by rw [List.length_map] at k1; exact k1)
      refine ⟨_, _, _, _, rfl, rfl, l_of (e1.ext _ _ hp1), hat, small8 (by simp), fun t ht => ?_⟩
      obtain ⟨lx, hlx, rfl⟩ := hys s hs
      exact q _ _ t (.ring lx.name) (Same.tr g2 (e1.keep ht).2) (e1.keep ht).1 (t_of upd_same) ⟨lx, hlx, rfl⟩ rfl
    · refine ⟨_, _, _, _, rfl, rfl, l_of d4.at0, rfl, ?_⟩
      have d5 := d4.tail
      refine ⟨_, rfl, small8 (by simp), fun tm2 htm2 => ?_⟩
      have m2 := d5.drop (o := .tup [.str "set", .str "clear"]) htm2
      refine ⟨_, _, rfl, .inr (t_of upd_same), rfl, rfl, false, rfl, iteF ?_⟩
      refine ⟨_, rfl, rfl, true, rfl, iteT ?_⟩
      refine ⟨_, rfl, Nat.zero_le _, fun q2 hq2 => ?_⟩
      have n1 := m2.drop (o := .lst []) hq2
      refine ⟨.list ((lvs.map V.str).map toD), .list [], .lst (l_of (n1.ext _ _ hlv1)) (flat_dp (strs_flat hlo)), .lst (l_of upd_same) .nil, flat_sh (strs_flat hlo), flat_sh (l := []) (fun _ m => by cases m), !(lvs.map V.str).isEmpty, by rw [flat_nil], ?_⟩
      cases hle : lvs with
      | nil =>
        refine iteF ?_
        refine ⟨_, rfl, small8 (by simp), fun rw hrw => ?_⟩
        have y1 := n1.own (o := .lst [.str "ring", .str "quiet"]) hrw
        refine ⟨_, rfl, rfl, .inr ⟨false, rfl, ?_⟩⟩
        refine ⟨_, _, _, _, rfl, rfl, l_of y1.at0, rfl, _, rfl, ?_⟩
        have y2 := y1.tail
        refine takenQ (v := 0) (((ys.map V.str).length : Nat) : Int) rfl (fun Q' h => ⟨_, rfl, _, _, rfl, .inl (l_of (y2.ext _ _ hp1)), h⟩) (by rw [List.length_map]; omega) (by rw [List.length_map]; omega) sc2 y2 fun H5 rr k0 k1 e1 => ?_
        obtain ⟨s, hs, hat⟩ := str_at (l := ys) k0 (by rw [List.length_map] at k1; exact k1)
        refine ⟨_, _, _, _, rfl, rfl, l_of (e1.ext _ _ hp1), hat, small8 (by simp), fun t ht => ?_⟩
        obtain ⟨lx, hlx, rfl⟩ := hys s hs
        exact q _ _ t (.ring lx.name) (Same.tr g2 (e1.keep ht).2) (e1.keep ht).1 (t_of upd_same) ⟨lx, hlx, rfl⟩ rfl
      | cons y0 l0 =>
        have hpos : 0 < lvs.length := by rw [hle]; simp
        refine iteT ?_
        refine ⟨_, rfl, _, rfl, ?_⟩
        refine takenQ (v := 0) (((lvs.map V.str).length : Nat) : Int) rfl (fun Q' h => ⟨_, rfl, _, _, rfl, .inl (l_of (n1.ext _ _ hlv1)), h⟩) (by rw [List.length_map]; omega) (by rw [List.length_map]; omega) sc2 n1 fun H5 rr k0 k1 e1 => ?_
        obtain ⟨s, hs, hat⟩ := str_at (l := lvs) k0 (by rw [List.length_map] at k1; exact k1)
        refine ⟨_, _, _, _, rfl, rfl, l_of (e1.ext _ _ hlv1), hat, small8 (by simp), fun t ht => ?_⟩
        obtain ⟨lx, hlx, rfl, hv⟩ := hlvs s hs
        exact q _ _ t (.quiet lx.name) (Same.tr g2 (e1.keep ht).2) (e1.keep ht).1 (t_of upd_same) ⟨lx, hlx, rfl, hv⟩ rfl
    · refine ⟨_, _, _, _, rfl, rfl, l_of d4.at0, rfl, ?_⟩
      have d5 := d4.tail
      refine ⟨_, rfl, small8 (by simp), fun tm2 htm2 => ?_⟩
      have m2 := d5.drop (o := .tup [.str "set", .str "clear"]) htm2
      refine ⟨_, _, rfl, .inr (t_of upd_same), rfl, rfl, false, rfl, iteF ?_⟩
      refine ⟨_, rfl, rfl, false, rfl, iteF (iteF ?_)⟩
      refine ⟨_, rfl, small8 (by simp), fun rw hrw => ?_⟩
      have y1 := m2.own (o := .lst [.str "ring", .str "mask"]) hrw
      refine ⟨_, rfl, rfl, .inr ⟨true, rfl, ?_⟩⟩
      refine ⟨_, _, _, _, rfl, rfl, l_of y1.at0, rfl, _, rfl, ?_⟩
      have y2 := y1.tail
      refine takenQ (v := 0) (((ys.map V.str).length : Nat) : Int) rfl (fun Q' h => ⟨_, rfl, _, _, rfl, .inl (l_of (y2.ext _ _ hp1)), h⟩) (by rw [List.length_map]; omega) (by rw [List.length_map]; omega) sc2 y2 fun H5 rr k0 k1 e1 => ?_
      obtain ⟨s, hs, hat⟩ := str_at (l := ys) k0 (by rw [List.length_map] at k1; exact k1)
      refine ⟨_, _, _, _, rfl, rfl, l_of (e1.ext _ _ hp1), hat, small8 (by simp), fun t ht => ?_⟩
      obtain ⟨lx, hlx, rfl⟩ := hys s hs
      exact q _ _ t (.mask lx.name) (Same.tr g2 (e1.keep ht).2) (e1.keep ht).1 (t_of upd_same) ⟨lx, hlx, rfl⟩ rfl
    · refine ⟨_, _, _, _, rfl, rfl, l_of d4.at0, rfl, ?_⟩
      have d5 := d4.tail
      refine ⟨_, rfl, small8 (by simp), fun tm2 htm2 => ?_⟩
      have m2 := d5.drop (o := .tup [.str "set", .str "clear"]) htm2
      refine ⟨_, _, rfl, .inr (t_of upd_same), rfl, rfl, false, rfl, iteF ?_⟩
      refine ⟨_, rfl, rfl, false, rfl, iteF (iteF ?_)⟩
      refine ⟨_, rfl, small8 (by simp), fun rw hrw => ?_⟩
      have y1 := m2.own (o := .lst [.str "ring", .str "unmask"]) hrw
      refine ⟨_, rfl, rfl, .inr ⟨true, rfl, ?_⟩⟩
      refine ⟨_, _, _, _, rfl, rfl, l_of y1.at0, rfl, _, rfl, ?_⟩
      have y2 := y1.tail
      refine takenQ (v := 0) (((ys.map V.str).length : Nat) : Int) rfl (fun Q' h => ⟨_, rfl, _, _, rfl, .inl (l_of (y2.ext _ _ hp1)), h⟩) (by rw [List.length_map]; omega) (by rw [List.length_map]; omega) sc2 y2 fun H5 rr k0 k1 e1 => ?_
      obtain ⟨s, hs, hat⟩ := str_at (l := ys) k0 (by rw [List.length_map] at k1; exact k1)
      refine ⟨_, _, _, _, rfl, rfl, l_of (e1.ext _ _ hp1), hat, small8 (by simp), fun t ht => ?_⟩
      obtain ⟨lx, hlx, rfl⟩ := hys s hs
      exact q _ _ t (.unmask lx.name) (Same.tr g2 (e1.keep ht).2) (e1.keep ht).1 (t_of upd_same) ⟨lx, hlx, rfl⟩ rfl
    · refine ⟨_, _, _, _, rfl, rfl, l_of d4.at0, rfl, ?_⟩
      have d5 := d4.tail
      refine ⟨_, rfl, small8 (by simp), fun tm2 htm2 => ?_⟩
      have m2 := d5.drop (o := .tup [.str "set", .str "clear"]) htm2
      refine ⟨_, _, rfl, .inr (t_of upd_same), rfl, rfl, false, rfl, iteF ?_⟩
      refine ⟨_, rfl, rfl, false, rfl, iteF (iteF ?_)⟩
      refine ⟨_, rfl, small8 (by simp), fun rw hrw => ?_⟩
      have y1 := m2.own (o := .lst [.str "ring", .str "unmask"]) hrw
      refine ⟨_, rfl, rfl, .inr ⟨true, rfl, ?_⟩⟩
      refine ⟨_, _, _, _, rfl, rfl, l_of y1.at0, rfl, _, rfl, ?_⟩
      have y2 := y1.tail
      refine takenQ (v := 0) (((ys.map V.str).length : Nat) : Int) rfl (fun Q' h => ⟨_, rfl, _, _, rfl, .inl (l_of (y2.ext _ _ hp1)), h⟩) (by rw [List.length_map]; omega) (by rw [List.length_map]; omega) sc2 y2 fun H5 rr k0 k1 e1 => ?_
      obtain ⟨s, hs, hat⟩ := str_at (l := ys) k0 (by rw [List.length_map] at k1; exact k1)
      refine ⟨_, _, _, _, rfl, rfl, l_of (e1.ext _ _ hp1), hat, small8 (by simp), fun t ht => ?_⟩
      obtain ⟨lx, hlx, rfl⟩ := hys s hs
      exact q _ _ t (.unmask lx.name) (Same.tr g2 (e1.keep ht).2) (e1.keep ht).1 (t_of upd_same) ⟨lx, hlx, rfl⟩ rfl
    · refine ⟨_, _, _, _, rfl, rfl, l_of d4.at0, rfl, ?_⟩
      have d5 := d4.tail
      refine ⟨_, rfl, small8 (by simp), fun tm2 htm2 => ?_⟩
      have m2 := d5.drop (o := .tup [.str "set", .str "clear"]) htm2
      refine ⟨_, _, rfl, .inr (t_of upd_same), rfl, rfl, true, rfl, iteT ?_⟩
      refine ⟨_, rfl, ?_⟩
      refine takenV (v := 0) rfl (by decide) (by decide) sc2 m2 fun H2 rr k0 k1 e1 => ⟨small8 (by simp), fun t ht => ?_⟩
      obtain ⟨f, rfl⟩ : ∃ f : Nat, rr = (f : Nat) := ⟨rr.toNat, by omega⟩
      exact q _ _ t (.setf f) (Same.tr g2 (e1.keep ht).2) (e1.keep ht).1 (t_of upd_same) (by show f ≤ 7; omega) rfl
    · refine ⟨_, _, _, _, rfl, rfl, l_of d4.at0, rfl, ?_⟩
      have d5 := d4.tail
      refine ⟨_, rfl, small8 (by simp), fun tm2 htm2 => ?_⟩
      have m2 := d5.drop (o := .tup [.str "set", .str "clear"]) htm2
      refine ⟨_, _, rfl, .inr (t_of upd_same), rfl, rfl, true, rfl, iteT ?_⟩
      refine ⟨_, rfl, ?_⟩
      refine takenV (v := 0) rfl (by decide) (by decide) sc2 m2 fun H2 rr k0 k1 e1 => ⟨small8 (by simp), fun t ht => ?_⟩
      obtain ⟨f, rfl⟩ : ∃ f : Nat, rr = (f : Nat) := ⟨rr.toNat, by omega⟩
      exact q _ _ t (.clearf f) (Same.tr g2 (e1.keep ht).2) (e1.keep ht).1 (t_of upd_same) (by show f ≤ 7; omega) rfl
end
end Cb

namespace Cb
open PySem PySem.Spec PyProof.Rows L2

def BPl (K : PySem.W.Frag) (A : AdB) (P : AdP) (S : SetD) (b : BdD) (p : PrD) (sv rv : List V) : List (Addr × HO) := layB A S b (layP K A P p sv rv [])
def LMl (A : AdM) (d : MdD) (cv jv gv : List V) : List (Addr × HO) := layM A d cv jv gv []
theorem lay_app {K : PySem.W.Frag} {A : AdB} {P : AdP} {S : SetD} {b : BdD} {p : PrD} {sv rv : List V} {X : List (Addr × HO)} : layB A S b (layP K A P p sv rv X) = BPl K A P S b p sv rv ++ X := rfl
theorem lm_app {A : AdM} {d : MdD} {cv jv gv : List V} {X : List (Addr × HO)} : layM A d cv jv gv X = LMl A d cv jv gv ++ X := rfl
theorem perm_a {α : Type} {B L M : List α} {s r : α} : (B ++ s :: (L ++ r :: M)).Perm (r :: (B ++ s :: (L ++ M))) := by
  have := List.perm_middle (a := r) (l₁ := B ++ s :: L) (l₂ := M)
  simpa using this
theorem perm_b {α : Type} {B L M : List α} {s r : α} : (L ++ (B ++ s :: r :: M)).Perm (r :: (B ++ s :: (L ++ M))) := by
  have h1 : (L ++ (B ++ s :: r :: M)).Perm ((B ++ [s, r]) ++ (L ++ M)) := by
    have := List.perm_append_comm_assoc L (B ++ [s, r]) M
    simpa using this
  have h2 := List.perm_middle (a := r) (l₁ := B ++ [s]) (l₂ := L ++ M)
  refine h1.trans ?_
  simpa using h2
/-- a processor and the law's model beside each other -/
structure StA (K : PySem.W.Frag) (A : AdB) (P : AdP) (S : SetD) (m row sc si dx : Addr) (K0 H : Hp) (b : BdD) (p : PrD) (d : MdD) (now : Int) (M : List (Addr × HO)) : Prop where
  fb : BoardAt K K0 A S
  fj : JobsAt K K0 P.jo S.ws P.ro
  fl : b.fl.length = 8
  ex : ∃ (Am : AdM) (sv rv cv jv gv : List V) (i g x : Int), Am.m = m ∧ TabsAt K K0 Am S.ls S.ws ∧ 0 ≤ i ∧ (0 ≤ g ∧ g < 2147483647) ∧ Paired (CallAt K K0) sv p.stack ∧ Paired (RowAt K K0) rv p.rows ∧ Paired (CallAt K K0) cv d.calls ∧ Paired (RowAt K K0) jv d.jobs ∧ Paired (LogAt K K0) gv d.log ∧
    Sep K0 H ((row, rowO sc i g x) :: (BPl K A P S b p sv rv ++ (si, siI K A P dx now) :: (LMl Am d cv jv gv ++ M)))
section
variable {K : PySem.W.Frag} {A : AdB} {P : AdP} {S : SetD} {m row sc si dx : Addr} {K0 H : Hp} {b : BdD} {p : PrD} {d : MdD} {now : Int} {M : List (Addr × HO)}
theorem StA.own (h : StA K A P S m row sc si dx K0 H b p d now M) : ∃ N, Own K A P S K0 H b p ((si, siI K A P dx now) :: N) ∧ ∀ K1 H' b' p' now', Same K0 K1 → Own K A P S K1 H' b' p' ((si, siI K A P dx now') :: N) → StA K A P S m row sc si dx K1 H' b' p' d now' M := by
  obtain ⟨fb, fj, fl, Am, sv, rv, cv, jv, gv, i, g, x, em, tb, hi, hg, h1, h2, h3, h4, h5, sp⟩ := h
  refine ⟨LMl Am d cv jv gv ++ (row, rowO sc i g x) :: M, ⟨fb, fj, fl, sv, rv, h1, h2, by rw [lay_app]; exact sp.perm perm_a⟩, fun K1 H' b' p' now' gg ow => ?_⟩
  obtain ⟨fb', fj', fl', sv', rv', h1', h2', sp'⟩ := ow
  rw [lay_app] at sp'
  exact ⟨fb', fj', fl', Am, sv', rv', cv, jv, gv, i, g, x, em, TabsAt.up gg tb, hi, hg, h1', h2', h3.mono fun _ _ z => CallAt.up gg z, h4.mono fun _ _ z => RowAt.up gg z, h5.mono fun _ _ z => LogAt.upk gg z, sp'.perm perm_a.symm⟩
theorem StA.mod (h : StA K A P S m row sc si dx K0 H b p d now M) : ∃ Am N, Am.m = m ∧ OwnM K Am S.ls S.ws K0 H d N ∧ ∀ K1 H' Am' d', Same K0 K1 → Am'.m = Am.m → OwnM K Am' S.ls S.ws K1 H' d' N → StA K A P S m row sc si dx K1 H' b p d' now M := by
  obtain ⟨fb, fj, fl, Am, sv, rv, cv, jv, gv, i, g, x, em, tb, hi, hg, h1, h2, h3, h4, h5, sp⟩ := h
  refine ⟨Am, BPl K A P S b p sv rv ++ (si, siI K A P dx now) :: (row, rowO sc i g x) :: M, em, ⟨tb, cv, jv, gv, h3, h4, h5, by rw [lm_app]; exact sp.perm perm_b⟩, fun K1 H' Am' d' gg em' ow => ?_⟩
  obtain ⟨tb', cv', jv', gv', h3', h4', h5', sp'⟩ := ow
  rw [lm_app] at sp'
  exact ⟨BoardAt.up gg fb, JobsAt.up gg fj, fl, Am', sv, rv, cv', jv', gv', i, g, x, em'.trans em, tb', hi, hg, h1.mono fun _ _ z => CallAt.up gg z, h2.mono fun _ _ z => RowAt.up gg z, h3', h4', h5', sp'.perm perm_b.symm⟩
theorem StA.dr (h : StA K A P S m row sc si dx K0 H b p d now M) : ∃ Am N, Am.m = m ∧ TabsAt K K0 Am S.ls S.ws ∧ Dr K0 H row sc N ∧ (m, .dK (mdK Am d)) ∈ N ∧ ∀ K1 H', Same K0 K1 → Dr K1 H' row sc N → StA K A P S m row sc si dx K1 H' b p d now M := by
  obtain ⟨fb, fj, fl, Am, sv, rv, cv, jv, gv, i, g, x, em, tb, hi, hg, h1, h2, h3, h4, h5, sp⟩ := h
  refine ⟨Am, BPl K A P S b p sv rv ++ (si, siI K A P dx now) :: (LMl Am d cv jv gv ++ M), em, tb, ⟨i, g, x, hi, hg, sp⟩, ?_, fun K1 H' gg dr => ?_⟩
  · subst em
    exact List.mem_append_right _ (List.mem_cons_of_mem _ (List.mem_append_left _ List.mem_cons_self))
  · obtain ⟨i', g', x', hi', hg', sp'⟩ := dr
    exact ⟨BoardAt.up gg fb, JobsAt.up gg fj, fl, Am, sv, rv, cv, jv, gv, i', g', x', em, TabsAt.up gg tb, hi', hg', h1.mono fun _ _ z => CallAt.up gg z, h2.mono fun _ _ z => RowAt.up gg z, h3.mono fun _ _ z => CallAt.up gg z, h4.mono fun _ _ z => RowAt.up gg z, h5.mono fun _ _ z => LogAt.upk gg z, sp'⟩
theorem StA.grow {H' : Hp} (h : StA K A P S m row sc si dx K0 H b p d now M) (g : Same H H') : StA K A P S m row sc si dx K0 H' b p d now M := by
  obtain ⟨fb, fj, fl, Am, sv, rv, cv, jv, gv, i, gg, x, em, tb, hi, hg, h1, h2, h3, h4, h5, sp⟩ := h
  exact ⟨fb, fj, fl, Am, sv, rv, cv, jv, gv, i, gg, x, em, tb, hi, hg, h1, h2, h3, h4, h5, sp.grow g⟩
theorem StA.ext (h : StA K A P S m row sc si dx K0 H b p d now M) : Same K0 H := by
  obtain ⟨fb, fj, fl, Am, sv, rv, cv, jv, gv, i, gg, x, em, tb, hi, hg, h1, h2, h3, h4, h5, sp⟩ := h
  exact sp.ext
end
/-- what the laws know of both -/
structure RelS (S : SetD) (b : BdD) (p : PrD) (d : MdD) (now : Int) : Prop where
  r : RelA S d b p
  g : GoodA S b p
  a : Asc p
  w : Fit S p
  n : d.now = now
def sp_law_played (K : PySem.W.Frag) : Sp := fun vs H Q _ => ∃ (row sc : Addr) (ns : List Int) (la wa : Addr) (ls : List LineD) (ws : List WorkD) (cnt oft : Int) (K0 : Hp) (M : List (Addr × HO)), vs = [.ref row, .ref la, .ref wa, .int cnt, .int oft] ∧ SqL K K0 sc (ns.map V.int) ∧ LinesAt K K0 la ls ∧ WorksAt K K0 wa ws ∧ LsOk ls ∧ WsOk ws ∧ AllOk ls ws ∧ 0 ≤ cnt ∧ cnt ≤ 30 ∧ 1 ≤ oft ∧ oft ≤ 4 ∧ Dr K0 H row sc M ∧
  ∀ K1 H' t x y, Same K0 K1 → Dr K1 H' row sc M → SqT K H' t [x, y] → Q (.ref t) H'
theorem Own.ext {K : PySem.W.Frag} {A : AdB} {P : AdP} {S : SetD} {K0 H : Hp} {b : BdD} {p : PrD} {M : List (Addr × HO)} (h : Own K A P S K0 H b p M) : Same K0 H := by
  obtain ⟨sv, rv, h1, h2, sp⟩ := h.ex
  exact sp.ext
theorem sep_tail {K0 H : Hp} : ∀ {L1 L2 : List (Addr × HO)}, Sep K0 H (L1 ++ L2) → Sep K0 H L2
  | [], _, h => h
  | _ :: L1, _, h => sep_tail (L1 := L1) h.tail
theorem StA.rest {K : PySem.W.Frag} {A : AdB} {P : AdP} {S : SetD} {m row sc si dx : Addr} {K0 H : Hp} {b : BdD} {p : PrD} {d : MdD} {now : Int} {M : List (Addr × HO)} (h : StA K A P S m row sc si dx K0 H b p d now M) : Dr K0 H row sc M := by
  obtain ⟨fb, fj, fl, Am, sv, rv, cv, jv, gv, i, g, x, em, tb, hi, hg, h1, h2, h3, h4, h5, sp⟩ := h
  refine ⟨i, g, x, hi, hg, ?_⟩
  have z := sp.perm (M := (BPl K A P S b p sv rv ++ (si, siI K A P dx now) :: LMl Am d cv jv gv) ++ (row, rowO sc i g x) :: M) (by
    have := List.perm_middle (a := (row, rowO sc i g x)) (l₁ := BPl K A P S b p sv rv ++ (si, siI K A P dx now) :: LMl Am d cv jv gv) (l₂ := M)
    simpa using this)
  exact sep_tail z
theorem rel0 {S : SetD} : RelS S bd0 pr0 md0 0 := by
  refine ⟨⟨⟨⟨fun l _ => rfl, fun l _ => rfl, fun l _ => rfl, fun f hf => ?_, ⟨List.Pairwise.nil, fun _ m => nomatch m⟩, ⟨List.Pairwise.nil, fun _ m => nomatch m⟩, ⟨List.Pairwise.nil, fun _ m => nomatch m⟩, ⟨List.Pairwise.nil, fun _ m => nomatch m⟩⟩, by simp [bd0], rfl, fun _ => rfl, rfl, rfl, rfl, rfl⟩, rfl⟩, good0, List.Pairwise.nil, (fun _ m => nomatch m), rfl⟩
  show false = (List.replicate 8 false).getD f false
  rw [List.getD_eq_getElem?_getD, List.getElem?_replicate, if_pos hf]
  rfl
def evD (e : Ev) : PyData := .tuple [.str e.word, .str e.name]
def c3D (c : CallD) : PyData := .tuple [.str c.line.name, .int (c.step : Nat), .int c.ticks]
def nmD (l : LineD) : PyData := .str l.name
def seenD (S : SetD) (b : BdD) (p : PrD) (now : Int) : List PyData :=
  [.int now, .list (((linesO S).filter (waitsB b)).map nmD), .list (p.stack.map c3D), .list (p.rows.map pd), .list ((upF b).map PyData.int), .int p.bar, .list (((linesO S).filter (disL b)).map nmD), .list (((linesO S).filter (highL b)).map nmD), .tuple [.int p.c0, .int p.c1, .int p.c2, .int p.c3]]
theorem dq_pair {α : Type} {K : PySem.W.Frag} {H : Hp} {F : V → α → Prop} {f : α → PyData} (h : ∀ v x, F v x → Dq K H (f x) v) : ∀ {vs : List V} {xs : List α}, Paired F vs xs → DqAll K H (xs.map f) vs
  | _, _, .nil => by simp [DqAll]
  | _, _, .cons a p => by
    rw [List.map_cons, DqAll]
    exact ⟨_, _, rfl, h _ _ a, dq_pair h p⟩
theorem dq_map {α : Type} {K : PySem.W.Frag} {H : Hp} {g : α → V} {f : α → PyData} (h : ∀ x, Dq K H (f x) (g x)) : ∀ {xs : List α}, DqAll K H (xs.map f) (xs.map g)
  | [] => by simp [DqAll]
  | x :: xs => by
    rw [List.map_cons, List.map_cons, DqAll]
    exact ⟨_, _, rfl, h x, dq_map h⟩
theorem dq_tup2 {K : PySem.W.Frag} {H : Hp} {t : Addr} {a b : Str} (h : SqT K H t [.str a, .str b]) : Dq K H (.tuple [.str a, .str b]) (.ref t) := by
  rw [Dq]
  refine ⟨t, _, rfl, h, ?_⟩
  simp [DqAll, Dq]
theorem ev_dq {K : PySem.W.Frag} {H : Hp} {v : V} {e : Ev} (h : EvAt K H v e) : Dq K H (evD e) v := by
  obtain ⟨t, rfl, h⟩ := h
  exact dq_tup2 h
theorem c3_dq {K : PySem.W.Frag} {H : Hp} {v : V} {c : CallD} (h : C3At K H v c) : Dq K H (c3D c) v := by
  obtain ⟨t, rfl, h⟩ := h
  unfold c3D
  rw [Dq]
  refine ⟨t, _, rfl, h, ?_⟩
  simp [DqAll, Dq]
theorem row_dq {K : PySem.W.Frag} {H : Hp} {v : V} {r : Rw} (h : RowAt K H v r) : Dq K H (pd r) v := by
  obtain ⟨t, rfl, h⟩ := h
  unfold pd
  rw [Dq]
  refine ⟨t, _, rfl, h, ?_⟩
  simp [DqAll, Dq]
theorem dq_lst {K : PySem.W.Frag} {H : Hp} {a : Addr} {xs : List V} {ds : List PyData} (h : H a = some (.lst xs)) (q : DqAll K H ds xs) : Dq K H (.list ds) (.ref a) := by
  rw [Dq]
  exact ⟨a, xs, rfl, h, q⟩
theorem seen_dq {K : PySem.W.Frag} {H : Hp} {xs : List V} {S : SetD} {b : BdD} {p : PrD} {now : Int} (h : SeenAt K H xs S b p now) : DqAll K H (seenD S b p now) xs := by
  obtain ⟨wa, ca, qu, fl, ma, hi, sp, cv, jv, rfl, h1, h2, h3, h4, h5, h6, h7, h8, h9⟩ := h
  have nm : ∀ l : List LineD, DqAll K H (l.map nmD) (nmsV l) := fun l => dq_map (g := fun l : LineD => V.str l.name) fun x => by unfold nmD; rw [Dq]
  have e1 := dq_lst h1 (nm _)
  have e2 := dq_lst h2 (dq_pair (f := c3D) (fun _ _ z => c3_dq z) h3)
  have e3 := dq_lst h4 (dq_pair (f := pd) (fun _ _ z => row_dq z) h5)
  have e4 := dq_lst (K := K) h6 (dq_map (K := K) (H := H) (f := PyData.int) (g := V.int) (xs := upF b) fun x => by rw [Dq])
  have e5 := dq_lst h7 (nm _)
  have e6 := dq_lst h8 (nm _)
  have e7 : Dq K H (.tuple [.int p.c0, .int p.c1, .int p.c2, .int p.c3]) (.ref sp) := by
    rw [Dq]
    refine ⟨sp, _, rfl, t_of h9, ?_⟩
    simp [DqAll, Dq]
  unfold seenD
  simp only [DqAll]
  exact ⟨_, _, rfl, by rw [Dq], _, _, rfl, e1, _, _, rfl, e2, _, _, rfl, e3, _, _, rfl, e4, _, _, rfl, by rw [Dq], _, _, rfl, e5, _, _, rfl, e6, _, _, rfl, e7, rfl⟩
theorem dep_map {α : Type} {f : α → PyData} {n : Nat} (h : ∀ x, (f x).depth ≤ n) : ∀ xs : List α, PyData.depthAll (xs.map f) ≤ n
  | [] => by simp [PyData.depthAll]
  | x :: xs => by
    have h1 := dep_map h xs
    have h2 := h x
    rw [List.map_cons]
    unfold PyData.depthAll
    omega
theorem w_map {α : Type} {f : α → PyData} (h : ∀ x, wOk (f x)) : ∀ xs : List α, wOkAll (xs.map f)
  | [] => by simp [wOkAll]
  | x :: xs => by
    rw [List.map_cons, wOkAll]
    exact ⟨h x, w_map h xs⟩
theorem ev_dep (e : Ev) : (evD e).depth ≤ 1 := by simp [evD, PyData.depth, PyData.depthAll]
theorem c3_dep (e : CallD) : (c3D e).depth ≤ 1 := by simp [c3D, PyData.depth, PyData.depthAll]
theorem pd_dep1 (e : Rw) : (pd e).depth ≤ 1 := by simp [pd, PyData.depth, PyData.depthAll]
theorem nm_dep (e : LineD) : (nmD e).depth ≤ 0 := by simp [nmD, PyData.depth]
theorem int_dep (e : Int) : (PyData.int e).depth ≤ 0 := by simp [PyData.depth]
theorem ev_w (e : Ev) : wOk (evD e) := by simp [evD, wOk, wOkAll]
theorem c3_w (e : CallD) : wOk (c3D e) := by simp [c3D, wOk, wOkAll]
theorem pd_w (e : Rw) : wOk (pd e) := by simp [pd, wOk, wOkAll]
theorem nm_w (e : LineD) : wOk (nmD e) := by simp [nmD, wOk]
theorem int_w (e : Int) : wOk (PyData.int e) := by simp [wOk]
theorem seen_dep {S : SetD} {b : BdD} {p : PrD} {now : Int} : (PyData.list (seenD S b p now)).depth < 4 := by
  have h1 := dep_map nm_dep ((linesO S).filter (waitsB b))
  have h2 := dep_map c3_dep p.stack
  have h3 := dep_map pd_dep1 p.rows
  have h4 := dep_map int_dep (upF b)
  have h5 := dep_map nm_dep ((linesO S).filter (disL b))
  have h6 := dep_map nm_dep ((linesO S).filter (highL b))
  unfold seenD
  simp only [PyData.depth, PyData.depthAll]
  omega
theorem seen_w {S : SetD} {b : BdD} {p : PrD} {now : Int} (ok : SetOk S) (h1 : p.stack.length ≤ 10000) (h2 : p.rows.length ≤ 10000) : wOk (.list (seenD S b p now)) := by
  have l : ∀ f, ((linesO S).filter f).length ≤ 10000 := fun f => by
    have := List.length_filter_le f (linesO S)
    have := linesO_len ok
    omega
  have l8 : (upF b).length ≤ 10000 := by
    unfold upF
    rw [List.length_map]
    exact Nat.le_trans (List.length_filter_le _ _) (by simp)
  unfold seenD
  simp only [wOk, wOkAll, List.length_map, List.length_cons, List.length_nil]
  exact ⟨by omega, trivial, ⟨l _, w_map nm_w _⟩, ⟨h1, w_map c3_w _⟩, ⟨h2, w_map pd_w _⟩, ⟨l8, w_map int_w _⟩, trivial, ⟨l _, w_map nm_w _⟩, ⟨l _, w_map nm_w _⟩, ⟨by omega, by simp⟩, trivial⟩
theorem done_dq {K : PySem.W.Frag} {H : Hp} {b : BdD} {st : SD} (dd : st.deed = true) : ∃ D : PyData, Dq K H D (doneV b st) ∧ D.depth < 4 ∧ wOk D := by
  cases st with
  | ring n => exact ⟨.str (ringR (b.rung n)), by rw [Dq]; rfl, by simp [PyData.depth], by simp [wOk]⟩
  | quiet n => exact ⟨.bool (b.rung n), by rw [Dq]; rfl, by simp [PyData.depth], by simp [wOk]⟩
  | mask n => exact ⟨.bool (!b.dis n), by rw [Dq]; rfl, by simp [PyData.depth], by simp [wOk]⟩
  | unmask n => exact ⟨.bool (b.dis n), by rw [Dq]; rfl, by simp [PyData.depth], by simp [wOk]⟩
  | setf n => exact ⟨.bool (!b.fl.getD n false), by rw [Dq]; rfl, by simp [PyData.depth], by simp [wOk]⟩
  | clearf n => exact ⟨.bool (b.fl.getD n false), by rw [Dq]; rfl, by simp [PyData.depth], by simp [wOk]⟩
  | _ => cases dd
theorem deed_rel {S : SetD} {b : BdD} {p : PrD} {d : MdD} {now : Int} {st : SD} (ok : SetOk S) (h : RelS S b p d now) (so : StepOk S.ls S.ws st) (dd : st.deed = true) : RelS S (actB b st) p (doesM S.ls d st).1 now := by
  have R := act_rel ok h.r.q so h.g.rows
  have e : actP S.ws p st = p := by cases st <;> first | rfl | cases dd
  rw [e] at R
  exact ⟨⟨R, doesM_calls.trans h.r.calls⟩, deed_good h.g, h.a, h.w, doesM_now.trans h.n⟩
theorem cut_drop {xs : List V} {n : Nat} (h : n ≤ xs.length) : cutV xs (some (n : Nat)) none = xs.drop n := by
  have e : HT.sIx xs.length 0 (some (n : Nat)) = n := by
    unfold HT.sIx
    simp only
    rw [if_neg (by omega : ¬ (((n : Nat) : Int) < 0))]
    omega
  unfold cutV
  rw [e]
  simp [HT.sIx]
  exact List.take_of_length_le (by simp)
theorem cut1 {a b c : V} : cutV [a, b, c] (some 1) none = [b, c] := by simp [cutV, HT.sIx]

section
variable {P : Program} {w : World} {K : PySem.W.Frag} {mg : Str → Option Value} {base : Heap}

end
end Cb

/-! x - y and x == y by own defs -/
namespace Cb
open PySem PySem.Spec PyProof.Rows L2
def rOwnS (C : Addr) (sp : Sp) (E : XK) : R2 := fun x y H Q => ∃ a dx fs n, x = .ref a ∧ y = .str n ∧ H a = some (.ins C dx fs) ∧ sp [.ref a, .str n] H (fun v H' => ∃ r, v = .ref r ∧ Q v H') E
def rOwnQ (C : Addr) (sp : Sp) (E : XK) : R2 := fun x y H Q => ∃ a b dx dy fs gs, x = .ref a ∧ y = .ref b ∧ H a = some (.ins C dx fs) ∧ H b = some (.ins C dy gs) ∧ sp [.ref a, .ref b] H (fun v H' => ∃ r, v = .bl r ∧ Q v H') E
section
variable {X : Cx} {k j : Nat} {C : Addr} {sp : Sp}
theorem C_sub (M : C8.Met X.prog X.w X.K X.mg X.base k C "__sub__" sp []) (hr : Room j X.A) (hj : k ≤ j) (h1 : PySem.W.selfFirst X.K C = true) (h2 : PySem.W.findIn X.K (.ref C) "__rsub__" = some none) : OpR X (binaryOp .Sub) (rOwnS C sp C8.E0) := by
  obtain ⟨f, fd, ps, ds, hc, hm, F, hb, hv⟩ := M.ex
  cases hv
  intro pins s σ H x y v u Q I rx ry h
  obtain ⟨a, dx, fs, n, rfl, rfl, ha, hsp⟩ := h
  cases rx
  have ry' := ry
  obtain ⟨t, rfl⟩ := ry
  obtain ⟨mA, J, _⟩ := ins_get I.hok ha
  obtain ⟨od, J, _⟩ := J.look
  obtain ⟨m, hF⟩ := I.fr
  refine PySem.W.ksp_binT hF I.ok.mod.kin J rfl h1 hm.at_ hm.fn h2 (.inl rfl) (by rfl) (by rfl) (by rfl) ?_
  have hl := F.len _ _ _ _ hsp
  have r2 : Vals [V.ref a, .str n] [Value.ref a, (Value.str n t)] := .cons rfl (.cons ry' .nil)
  refine wpAny_call (codeAny_mono (F.run X.A X.stack s H ⟨[.ref a, (Value.str n t)], []⟩ [.ref a, (Value.str n t)] [.ref a, .str n] _ C8.E0 (hr.mono hj) I.env0 (by
    have := hb s [.ref a, (Value.str n t)] I.kIn (by simpa using hl)
    simpa using this) r2 hsp) fun r s' hq => ?_)
  cases r with
  | error e => exact False.elim (by obtain ⟨_, _, _, _, z⟩ := hq)
  | ok fl =>
    cases fl with
    | ret w =>
      obtain ⟨z, H', I', rz, ⟨r, ez, q⟩⟩ := I.after hq
      subst ez
      cases rz
      exact ⟨.ref r, H', I', rfl, q⟩
    | next => exact False.elim hq
    | brk => exact False.elim hq
    | cont => exact False.elim hq
theorem C_eq (M : C8.Met X.prog X.w X.K X.mg X.base k C "__eq__" sp []) (hr : Room j X.A) (hj : k ≤ j) : OpR X (compareOp .Eq) (rOwnQ C sp C8.E0) := by
  obtain ⟨f, fd, ps, ds, hc, hm, F, hb, hv⟩ := M.ex
  cases hv
  intro pins s σ H x y v u Q I rx ry h
  obtain ⟨a, b, dx, dy, fs, gs, rfl, rfl, ha, hb', hsp⟩ := h
  cases rx
  cases ry
  obtain ⟨mA, J, _⟩ := ins_get I.hok ha
  obtain ⟨mB, J', _⟩ := ins_get I.hok hb'
  obtain ⟨od, J, _⟩ := J.look
  obtain ⟨od', J', _⟩ := J'.look
  obtain ⟨m, hF⟩ := I.fr
  show wpAny (model X.prog X.w) X.A (richCompare .Eq (.ref a) (.ref b)) (EP X pins σ Q) X.xe s
  refine PySem.W.cmp_K (op := .Eq) (tb := .ref C) (hr.mono hj).units0 hF I.ok.mod.kin J J'.type (by simp [PySem.W.notFirst]) hm.at_ hm.fn ?_
  have hl := F.len _ _ _ _ hsp
  have r2 : Vals [V.ref a, .ref b] [Value.ref a, Value.ref b] := .cons rfl (.cons rfl .nil)
  refine wpAny_call (codeAny_mono (F.run X.A X.stack s H ⟨[.ref a, Value.ref b], []⟩ [.ref a, .ref b] [.ref a, .ref b] _ C8.E0 (hr.mono hj) I.env0 (by
    have := hb s [.ref a, Value.ref b] I.kIn (by simpa using hl)
    simpa using this) r2 hsp) fun r s' hq => ?_)
  cases r with
  | error e => exact False.elim (by obtain ⟨_, _, _, _, z⟩ := hq)
  | ok fl =>
    cases fl with
    | ret w =>
      obtain ⟨z, H', I', rz, ⟨r, ez, q⟩⟩ := I.after hq
      subst ez
      cases rz
      exact ⟨.bl r, H', I', rfl, q⟩
    | next => exact False.elim hq
    | brk => exact False.elim hq
    | cont => exact False.elim hq
end
end Cb

namespace Cb
open PySem PySem.Spec PyProof.Rows L2

def SD.nmOk : SD → Prop
  | .ring l => nameOk l
  | .quiet l => nameOk l
  | .mask l => nameOk l
  | .unmask l => nameOk l
  | .later l => nameOk l
  | _ => True

theorem stepOk_nmQ {ls : List LineD} {ws : List WorkD} {st : SD} (ok : LsOk ls) (okw : WsOk ws) (h : StepOk ls ws st) : st.nmOk := by
  cases st <;> try exact True.intro
  case later w =>
    obtain ⟨x, hx, rfl⟩ := h
    exact (okw.ok x hx).nm
  all_goals
    obtain ⟨x, hx, q⟩ := h
    first
      | (subst q; exact (ok.ok x hx).nm)
      | (obtain ⟨rfl, _⟩ := q; exact (ok.ok x hx).nm)

def SD.argD : SD → PyData
  | .run n => .int n
  | .ring l => .str l
  | .quiet l => .str l
  | .mask l => .str l
  | .unmask l => .str l
  | .setf f => .int (f : Nat)
  | .clearf f => .int (f : Nat)
  | .await f => .int (f : Nat)
  | .bar b => .int b
  | .later w => .str w
def stpD (s : SD) : PyData := .tuple [.str s.word, s.argD]
def linD (l : LineD) : PyData := .tuple [.str l.name, .str (kindS l.lvl), .int l.rank, .tuple (l.steps.map stpD)]
def wrkD (w : WorkD) : PyData := .tuple [.str w.name, .int w.rank, .int w.ticks]
def lsD (ls : List LineD) : PyData := .tuple (ls.map linD)
def wsD (ws : List WorkD) : PyData := .tuple (ws.map wrkD)
def eqSD (S S' : SetD) : Bool := PyData.eqv (lsD S.ls) (lsD S'.ls) && PyData.eqv (wsD S.ws) (wsD S'.ws)
def rungL (b : BdD) (l : LineD) : Bool := b.rung l.name
def bstD (S : SetD) (b : BdD) : PyData := .tuple [.tuple (((linesO S).filter (rungL b)).map nmD), .tuple (((linesO S).filter (disL b)).map nmD), .tuple ((upF b).map PyData.int)]
def c4D (c : CallD) : PyData := .tuple [.str c.line.name, .int (c.step : Nat), .int c.ticks, .int c.kept]
def pstD (p : PrD) : PyData := .tuple [.int p.bar, .tuple (p.stack.map c4D), .tuple (p.rows.map pd)]
def toldD (S : SetD) (b : BdD) (p : PrD) (now : Int) : PyData := .tuple [.tuple [bstD S b, pstD p], .int now, .tuple [.int p.c0, .int p.c1, .int p.c2, .int p.c3]]
theorem dq_tpl {K : PySem.W.Frag} {H : Hp} {a : Addr} {xs : List V} {ds : List PyData} (h : SqT K H a xs) (q : DqAll K H ds xs) : Dq K H (.tuple ds) (.ref a) := by
  rw [Dq]
  exact ⟨a, xs, rfl, h, q⟩
theorem dq_nms {K : PySem.W.Frag} {H : Hp} {l : List LineD} : DqAll K H (l.map nmD) (nmsV l) := dq_map (g := fun l : LineD => V.str l.name) fun x => by unfold nmD; rw [Dq]
theorem dq_intsQ {K : PySem.W.Frag} {H : Hp} {l : List Int} : DqAll K H (l.map PyData.int) (l.map V.int) := dq_map (K := K) (H := H) (f := PyData.int) (g := V.int) fun x => by rw [Dq]
theorem stp_dq {K : PySem.W.Frag} {H : Hp} {v : V} {s : SD} (h : StepAt K H v s) : Dq K H (stpD s) v := by
  obtain ⟨t, rfl, h⟩ := h
  refine dq_tpl h ?_
  cases s <;> simp [DqAll, Dq, SD.word, SD.arg, SD.argD]
theorem lin_dq {K : PySem.W.Frag} {H : Hp} {v : V} {l : LineD} (h : LineAt K H v l) : Dq K H (linD l) v := by
  obtain ⟨a, g, hs, rfl, h1, h2, h3⟩ := h
  refine dq_tpl h1 ?_
  have e := dq_tpl h2 (dq_pair (f := stpD) (fun _ _ z => stp_dq z) h3)
  simp only [DqAll]
  exact ⟨_, _, rfl, by rw [Dq], _, _, rfl, by rw [Dq], _, _, rfl, by rw [Dq], _, _, rfl, e, rfl⟩
theorem wrk_dq {K : PySem.W.Frag} {H : Hp} {v : V} {l : WorkD} (h : WorkAt K H v l) : Dq K H (wrkD l) v := by
  obtain ⟨a, rfl, h1⟩ := h
  refine dq_tpl h1 ?_
  simp [DqAll, Dq]
theorem c4_dq {K : PySem.W.Frag} {H : Hp} {v : V} {l : CallD} (h : CallAt K H v l) : Dq K H (c4D l) v := by
  obtain ⟨a, rfl, h1⟩ := h
  refine dq_tpl h1 ?_
  simp [DqAll, Dq]
theorem ls_dq {K : PySem.W.Frag} {H : Hp} {a : Addr} {ls : List LineD} (h : LinesAt K H a ls) : Dq K H (lsD ls) (.ref a) := by
  obtain ⟨xs, h1, h2⟩ := h.ex
  exact dq_tpl h1 (dq_pair (f := linD) (fun _ _ z => lin_dq z) h2)
theorem ws_dq {K : PySem.W.Frag} {H : Hp} {a : Addr} {ls : List WorkD} (h : WorksAt K H a ls) : Dq K H (wsD ls) (.ref a) := by
  obtain ⟨xs, h1, h2⟩ := h.ex
  exact dq_tpl h1 (dq_pair (f := wrkD) (fun _ _ z => wrk_dq z) h2)
theorem lay_map {α : Type} {f : α → PyData} : ∀ {l : List α}, (∀ x ∈ l, (f x).canLay0 = true) → PyData.canLayAll0 (l.map f) = true
  | [], _ => by simp [PyData.canLayAll0]
  | a :: l, h => by simp [PyData.canLayAll0, lay_map fun r m => h r (List.mem_cons_of_mem _ m), h a List.mem_cons_self]
theorem word_ok (s : SD) : PyData.strOk s.word = true := by cases s <;> simp only [SD.word] <;> decide +kernel
theorem stp_lay {s : SD} (h : s.nmOk) : (stpD s).canLay0 = true := by
  have w := word_ok s
  unfold stpD
  simp only [PyData.canLay0, PyData.canLayAll0, w, Bool.true_and, Bool.and_true]
  cases s <;> first | rfl | exact sok h
theorem lin_lay {S : SetD} (ok : SetOk S) {l : LineD} (m : l ∈ S.ls) : (linD l).canLay0 = true := by
  have h1 := sok (ok.ok.ok l m).nm
  have h2 : PyData.strOk (kindS l.lvl) = true := by cases l.lvl <;> exact (by decide +kernel)
  have h3 := lay_map (f := stpD) (l := l.steps) fun s ms => stp_lay (stepOk_nmQ ok.ok ok.okw (ok.all l m s ms))
  unfold linD
  simp [PyData.canLay0, PyData.canLayAll0, h1, h2, h3]
theorem wrk_lay {S : SetD} (ok : SetOk S) {l : WorkD} (m : l ∈ S.ws) : (wrkD l).canLay0 = true := by
  have h1 := sok (ok.okw.ok l m).nm
  unfold wrkD
  simp [PyData.canLay0, PyData.canLayAll0, h1]
theorem stp_dep (s : SD) : (stpD s).depth ≤ 1 := by cases s <;> simp [stpD, SD.argD, PyData.depth, PyData.depthAll]
theorem lin_dep (l : LineD) : (linD l).depth ≤ 3 := by
  have := dep_map stp_dep l.steps
  unfold linD
  simp only [PyData.depth, PyData.depthAll]
  omega
theorem wrk_dep (l : WorkD) : (wrkD l).depth ≤ 1 := by simp [wrkD, PyData.depth, PyData.depthAll]
theorem ls_sh {S : SetD} (ok : SetOk S) : SeqAt.shaped (lsD S.ls) = true := by
  have h1 := lay_map (f := linD) fun x m => lin_lay ok m
  have h2 := dep_map lin_dep S.ls
  unfold SeqAt.shaped lsD
  simp [PyData.canLay0, h1, PyData.depth]
  omega
theorem ws_sh {S : SetD} (ok : SetOk S) : SeqAt.shaped (wsD S.ws) = true := by
  have h1 := lay_map (f := wrkD) fun x m => wrk_lay ok m
  have h2 := dep_map wrk_dep S.ws
  unfold SeqAt.shaped wsD
  simp [PyData.canLay0, h1, PyData.depth]
  omega
/-- the names that a state tells of are names -/
structure NmOk (S : SetD) (p : PrD) : Prop where
  st : ∀ c ∈ p.stack, nameOk c.line.name
  rw : ∀ r ∈ p.rows, nameOk r.1
theorem c4_dep (e : CallD) : (c4D e).depth ≤ 1 := by simp [c4D, PyData.depth, PyData.depthAll]
theorem told_lay {S : SetD} {b : BdD} {p : PrD} {now : Int} (ok : SetOk S) (h : NmOk S p) : (toldD S b p now).canLay0 = true := by
  have nl : ∀ f, PyData.canLayAll0 (((linesO S).filter f).map nmD) = true := fun f => lay_map fun x m => by
    have := sok (ok.ok.ok x (linesO_mem ok (List.mem_filter.mp m).1)).nm
    simpa [nmD, PyData.canLay0] using this
  have h2 : PyData.canLayAll0 ((upF b).map PyData.int) = true := lay_map fun x m => by simp [PyData.canLay0]
  have h3 : PyData.canLayAll0 (p.stack.map c4D) = true := lay_map fun x m => by
    have := sok (h.st x m)
    simp [c4D, PyData.canLay0, PyData.canLayAll0, this]
  have h4 := pd_lay h.rw
  unfold toldD bstD pstD
  simp [PyData.canLay0, PyData.canLayAll0, nl, h2, h3, h4]
theorem told_sh {S : SetD} {b : BdD} {p : PrD} {now : Int} (ok : SetOk S) (h : NmOk S p) : SeqAt.shaped (toldD S b p now) = true := by
  have h1 := told_lay (b := b) (now := now) ok h
  have a1 := dep_map nm_dep ((linesO S).filter (rungL b))
  have a2 := dep_map nm_dep ((linesO S).filter (disL b))
  have a3 := dep_map int_dep (upF b)
  have a4 := dep_map c4_dep p.stack
  have a5 := dep_map pd_dep1 p.rows
  have a6 : (toldD S b p now).depth ≤ 5 := by
    unfold toldD bstD pstD
    simp only [PyData.depth, PyData.depthAll]
    omega
  unfold SeqAt.shaped
  simp [h1]
  omega
theorem good_nm {S : SetD} {b : BdD} {p : PrD} (ok : SetOk S) (g : GoodA S b p) : NmOk S p := ⟨fun c m => (ok.ok.ok c.line (g.calls c m).ln).nm, fun r m => by
  obtain ⟨w, hw, e⟩ := g.rows.inn r m
  rw [← e]
  exact (ok.okw.ok w hw).nm⟩
def sp_Board_board_state (K : PySem.W.Frag) : Sp := fun vs H Q _ => ∃ (A : AdB) (S : SetD) (K0 : Hp) (b : BdD) (M : List (Addr × HO)), vs = [.ref A.bo] ∧ OwnB K A S K0 H b M ∧
  ∀ t H', Same H H' → Dq K H' (bstD S b) (.ref t) → Q (.ref t) H'
def sp_Processor_processor_state (K : PySem.W.Frag) : Sp := fun vs H Q _ => ∃ (A : AdB) (P : AdP) (S : SetD) (K0 : Hp) (b : BdD) (p : PrD) (M : List (Addr × HO)), vs = [.ref P.pr] ∧ Own K A P S K0 H b p M ∧ p.stack.length ≤ 3900 ∧ p.rows.length ≤ 3900 ∧
  ∀ t H', Same H H' → Dq K H' (pstD p) (.ref t) → Q (.ref t) H'
def sp_Processor_spent_ticksH (K : PySem.W.Frag) : Sp := fun vs H Q _ => ∃ (A : AdB) (P : AdP) (S : SetD) (K0 : Hp) (b : BdD) (p : PrD) (M : List (Addr × HO)), vs = [.ref P.pr] ∧ Own K A P S K0 H b p M ∧
  ∀ t H', Same H H' → H' t = some (.tup [.int p.c0, .int p.c1, .int p.c2, .int p.c3]) → Q (.ref t) H'
def sp_Single_state (K : PySem.W.Frag) : Sp := fun vs H Q _ => ∃ (A : AdB) (P : AdP) (S : SetD) (K0 : Hp) (b : BdD) (p : PrD) (si dx : Addr) (now : Int) (M : List (Addr × HO)), vs = [.ref si] ∧ Own K A P S K0 H b p ((si, siI K A P dx now) :: M) ∧ p.stack.length ≤ 3900 ∧ p.rows.length ≤ 3900 ∧
  ∀ t H', Same H H' → Dq K H' (.tuple [bstD S b, pstD p]) (.ref t) → Q (.ref t) H'
def sp_Single_told (K : PySem.W.Frag) : Sp := fun vs H Q _ => ∃ (A : AdB) (P : AdP) (S : SetD) (K0 : Hp) (b : BdD) (p : PrD) (si dx : Addr) (now : Int) (M : List (Addr × HO)), vs = [.ref si] ∧ Own K A P S K0 H b p ((si, siI K A P dx now) :: M) ∧ p.stack.length ≤ 3900 ∧ p.rows.length ≤ 3900 ∧
  ∀ t H', Same H H' → Dq K H' (toldD S b p now) (.ref t) → Q (.ref t) H'
def sp_Setup_eq (K : PySem.W.Frag) : Sp := fun vs H Q _ => ∃ (x y : Addr) (S S' : SetD), vs = [.ref x, .ref y] ∧ SetupAt K H x S ∧ SetupAt K H y S' ∧ SetOk S ∧ SetOk S' ∧ Q (.bl (eqSD S S')) H
def lessL (ls : List LineD) (n : Str) : List LineD := ls.filter fun z => !decide (z.name = n)
def sp_Setup_sub (K : PySem.W.Frag) : Sp := fun vs H Q _ => ∃ (su : Addr) (S : SetD) (l : LineD) (K0 : Hp) (M : List (Addr × HO)), vs = [.ref su, .str l.name] ∧ Sep K0 H M ∧ SetupAt K K0 su S ∧ SetOk S ∧ l ∈ S.ls ∧ lessL S.ls l.name ≠ [] ∧ AllOk (lessL S.ls l.name) S.ws ∧
  ∀ K1 H' x S', Same K0 K1 → Sep K1 H' M → SetupAt K K1 x S' → S'.ls = lessL S.ls l.name → S'.ws = S.ws → SetOk S' → Q (.ref x) H'
def sp_Single_eq (K : PySem.W.Frag) : Sp := fun vs H Q _ => ∃ (A : AdB) (P : AdP) (S : SetD) (K0 : Hp) (b : BdD) (p : PrD) (si dx : Addr) (now : Int) (M : List (Addr × HO)) (A' : AdB) (P' : AdP) (S' : SetD) (K0' : Hp) (b' : BdD) (p' : PrD) (si' dx' : Addr) (now' : Int) (M' : List (Addr × HO)), vs = [.ref si, .ref si'] ∧ Own K A P S K0 H b p ((si, siI K A P dx now) :: M) ∧ Own K A' P' S' K0' H b' p' ((si', siI K A' P' dx' now') :: M') ∧
  p.stack.length ≤ 3900 ∧ p.rows.length ≤ 3900 ∧ p'.stack.length ≤ 3900 ∧ p'.rows.length ≤ 3900 ∧ NmOk S p ∧ NmOk S' p' ∧ ∀ H', Same H H' → Q (.bl (eqSD S S' && PyData.eqv (toldD S b p now) (toldD S' b' p' now'))) H'

section
variable {P : Program} {w : World} {K : PySem.W.Frag} {mg : Str → Option Value} {base : Heap}

abbrev N_Board_board_state : List Str := ["self", "rung", "line"]
theorem sc_Board_board_state : FnScope N_Board_board_state ["self"] (C8.fnScope s_Board_board_state) := C8.fnScope_by (by decide +kernel)
theorem ok_Board_board_state {fd : FuncData} (T : Txt K mg) (F : FunD K "board_state" "Board.board_state" (C8.fnArgs s_Board_board_state) (C8.fnBody s_Board_board_state) (C8.fnScope s_Board_board_state) [] [] (He.ma K (aC "Board" K) "board_state") fd) (c_order : FnP P w K mg base 1 (prA "Setup" "order" K) (sp_Setup_order K)) (c_disabled_lines : C8.Met P w K mg base 3 (aC "Board" K) "disabled_lines" (sp_Board_disabled_lines K) []) (c_raised_flags : C8.Met P w K mg base 1 (aC "Board" K) "raised_flags" (sp_Board_raised_flags K) []) :
    C8.Met P w K mg base 5 (aC "Board" K) "board_state" (sp_Board_board_state K) [] := by
  refine C8.met0 T.cl_Board T.m_Board_board_state (fun_c8 F) (F.bindsN fun _ _ _ _ _ _ us hl => match us, hl with | [_], _ => rfl) sc_Board_board_state (fun vs H Q E h => ?_) (fun cdv A outer s H vs Q E hr h => ?_)
  · obtain ⟨_, _, _, _, _, rfl, _⟩ := h
    rfl
  · have nd := sc_Board_board_state.nd
    have hu := hu_of hr
    obtain ⟨A, S, K0, b, M, rfl, ow, q⟩ := h
    obtain ⟨p, hpo⟩ := T.p_Setup_order
    refine ⟨_, (pss_cons (ps_setLc (i := 1) (own := [("line", 2)]) rfl nd rfl rfl (sw_true rfl rfl rfl (by decide +kernel)) (pi_tup (C_prop hpo T.cl_Setup c_order hr (by decide) (pe_fld (pv 0) rfl))) (blkOk_by (own := [("line", 2)]) (N := N_Board_board_state) (sc := (C8.fnScope s_Board_board_state)) (by decide +kernel)) (fun _ _ _ _ _ => (pg_name (i := 2) nd rfl (Or.inl rfl))) (fun _ _ _ _ _ => (pts_one (pt_val (pe_dget hu (pe_fld (pv 0) rfl : PE _ _ (tFld K _ _)) (pv 2) (fun _ _ => rfl))))) (fun _ _ _ _ _ => (pv 2)))
      (pss_one (ps_ret (pe_tup (pa_cons (pe_callTy call_tuple_of (by rfl) T.n_tuple (by decide +kernel) (pa_cons (pv 1) pa_nil)) (pa_cons (pe_callTy call_tuple_of (by rfl) T.n_tuple (by decide +kernel) (pa_cons (C8.pe_mt0 c_disabled_lines hr (by decide) (pv 0)) pa_nil)) (pa_cons (pe_callTy call_tuple_of (by rfl) T.n_tuple (by decide +kernel) (pa_cons (C8.pe_mt0 c_raised_flags hr (by decide) (pv 0)) pa_nil)) pa_nil))))))), ?_⟩
    have B := ow.at_
    have h1 := B.at_
    obtain ⟨dx2, _, _, _, _, _, h3, _⟩ := B.su.ex
    refine ⟨_, rfl, _, _, _, _, _, rfl, h1, T.cl_Board, T.t_Board_setup, rfl, A.su, dx2, _, rfl, h3, A.su, S, H, rfl, B.su, Same.refl H, fun oa hoa => ?_⟩
    rw [order_nms B.ok] at hoa
    refine ⟨_, rfl, ⟨_, t_of hoa⟩, fun D hD => ?_⟩
    refine lc_it (walk_tup (xs := nmsV (linesO S))) (fun i H' => Sep H H' ((D, .lst (nmsV (((linesO S).take i).filter (rungL b)))) :: [])) ((Sep.nil (H := H)).own hD) ?_ ?_ ?_
    · rintro i H' _ sp'
      exact t_of (sp'.ext _ _ hoa)
    · rintro i v H3 H4 hi sp' ⟨rfl, e2⟩
      unfold nmsV at e2
      rw [List.getElem?_map] at e2
      obtain ⟨l, hlo, rfl⟩ := Option.map_eq_some_iff.mp e2
      have hl : l ∈ S.ls := linesO_mem B.ok (List.mem_of_getElem? hlo)
      have ow' := ow.grow sp'.ext
      have h1' := ow'.at_.at_
      have hm := ow'.at_.ok.mem hl
      refine ⟨rfl, _, rfl, _, _, _, _, _, rfl, h1', T.cl_Board, T.t_Board_rung, rfl, _, rfl, A.r, _, rfl, bd_at hm ▸ DGet.k (k := .inr l.name) ow'.sp.c0, _, rfl, ?_⟩
      rw [filter_snoc (rungL b) hlo]
      cases e : b.rung l.name with
      | true =>
        refine iteT ⟨_, rfl, _, sp'.c0, ?_, ?_⟩
        · have z1 := List.length_filter_le (rungL b) ((linesO S).take i)
          have z2 : (linesO S).length ≤ 12 := linesO_len B.ok
          exact sml (m := 12) (by unfold nmsV; simp at z1 ⊢; omega) (by decide)
        · rw [if_pos (show (rungL b) l = true by unfold rungL; first | (rw [e]; done) | (rw [e]; rfl)), nmsV_snoc]
          exact sp'.put0
      | false =>
        refine iteF ?_
        rw [if_neg (show ¬ (rungL b) l = true by unfold rungL; rw [e]; simp), List.append_nil]
        exact sp'
    rintro H1 sp'
    rw [List.take_of_length_le (by unfold nmsV; simp)] at sp'
    refine ⟨_, rfl, _, _, rfl, .inl ⟨l_of sp'.c0, fun t1 ht1 => ?_⟩⟩
    have g1 := same_new (o := .tup (nmsV ((linesO S).filter (rungL b)))) sp'.ext ht1
    have at1 : upd H1 t1 (.tup (nmsV ((linesO S).filter (rungL b)))) t1 = some (.tup (nmsV ((linesO S).filter (rungL b)))) := upd_same
    revert g1 at1
    generalize upd H1 t1 (.tup (nmsV ((linesO S).filter (rungL b)))) = H2
    intro g1 at1
    have ow2 := ow.grow g1
    refine ⟨_, rfl, A.bo, A.db, _, rfl, ow2.at_.at_, rfl, A, S, K0, b, M, rfl, ow2, fun q2 H3 g3 hq2 hq3 => ?_⟩
    refine ⟨_, _, rfl, .inl ⟨l_of hq3, fun t2 ht2 => ?_⟩⟩
    have g4 := same_new (o := .tup (nmsV ((linesO S).filter (disL b)))) g3 ht2
    have at2 : upd H3 t2 (.tup (nmsV ((linesO S).filter (disL b)))) t2 = some (.tup (nmsV ((linesO S).filter (disL b)))) := upd_same
    revert g4 at2
    generalize upd H3 t2 (.tup (nmsV ((linesO S).filter (disL b)))) = H4
    intro g4 at2
    have ow4 := ow2.grow g4
    refine ⟨_, rfl, A.bo, A.db, _, rfl, ow4.at_.at_, rfl, A, S, K0, b, M, rfl, ow4, fun q3 H5 g5 hq4 hq5 => ?_⟩
    refine ⟨_, _, rfl, .inl ⟨l_of hq5, fun t3 ht3 => ?_⟩⟩
    have g6 := same_new (o := .tup ((upF b).map V.int)) g5 ht3
    have at3 : upd H5 t3 (.tup ((upF b).map V.int)) t3 = some (.tup ((upF b).map V.int)) := upd_same
    revert g6 at3
    generalize upd H5 t3 (.tup ((upF b).map V.int)) = H6
    intro g6 at3
    refine ⟨small8 (by simp), fun t ht => ?_⟩
    have g7 := fun o => same_new (o := o) (Same.refl H6) ht
    refine q t _ (Same.tr g1 (Same.tr g4 (Same.tr g6 (g7 _)))) (dq_tpl (t_of upd_same) ?_)
    have d1 := dq_tpl (K := K) (t_of (Same.tr g4 (Same.tr g6 (g7 (.tup [.ref t1, .ref t2, .ref t3]))) _ _ at1)) dq_nms
    have d2 := dq_tpl (K := K) (t_of (Same.tr g6 (g7 (.tup [.ref t1, .ref t2, .ref t3])) _ _ at2)) dq_nms
    have d3 := dq_tpl (K := K) (t_of (g7 (.tup [.ref t1, .ref t2, .ref t3]) _ _ at3)) dq_intsQ
    simp only [DqAll]
    exact ⟨_, _, rfl, d1, _, _, rfl, d2, _, _, rfl, d3, rfl⟩
abbrev N_Processor_processor_state : List Str := ["self"]
theorem sc_Processor_processor_state : FnScope N_Processor_processor_state ["self"] (C8.fnScope s_Processor_processor_state) := C8.fnScope_by (by decide +kernel)
theorem ok_Processor_processor_state {fd : FuncData} (T : Txt K mg) (F : FunD K "processor_state" "Processor.processor_state" (C8.fnArgs s_Processor_processor_state) (C8.fnBody s_Processor_processor_state) (C8.fnScope s_Processor_processor_state) [] [] (He.ma K (aC "Processor" K) "processor_state") fd) (c_jrows : C8.Met P w K mg base 1 (aC "WorkQueue" K) "rows" (sp_WorkQueue_rows K) []) :
    C8.Met P w K mg base 4 (aC "Processor" K) "processor_state" (sp_Processor_processor_state K) [] := by
  refine C8.met0 T.cl_Processor T.m_Processor_processor_state (fun_c8 F) (F.bindsN fun _ _ _ _ _ _ us hl => match us, hl with | [_], _ => rfl) sc_Processor_processor_state (fun vs H Q E h => ?_) (fun cdv A outer s H vs Q E hr h => ?_)
  · obtain ⟨_, _, _, _, _, _, _, rfl, _⟩ := h
    rfl
  · have nd := sc_Processor_processor_state.nd
    have hu := hu_of hr
    obtain ⟨A, P, S, K0, b, p, M, rfl, ow, hl, hr1, q⟩ := h
    refine ⟨_, (pss_one (ps_ret (pe_tup (pa_cons (pe_fld (pv 0) rfl) (pa_cons (pe_callTy call_tuple_of (by rfl) T.n_tuple (by decide +kernel) (pa_cons (pe_fld (pv 0) rfl) pa_nil)) (pa_cons (pe_callTy call_tuple_of (by rfl) T.n_tuple (by decide +kernel) (pa_cons (C8.pe_mt0 c_jrows hr (by decide) (pe_fld (pv 0) rfl)) pa_nil)) pa_nil)))))), ?_⟩
    obtain ⟨sv, rv, h1, h2, sp⟩ := ow.ex
    have hpr := sp.c5
    refine ⟨_, rfl, _, _, _, _, _, rfl, hpr, T.cl_Processor, T.t_Processor_bar, rfl, ?_⟩
    refine ⟨_, rfl, _, _, _, _, _, rfl, hpr, T.cl_Processor, T.t_Processor_stack, rfl, _, _, rfl, .inl ⟨l_of sp.c6, fun t1 ht1 => ?_⟩⟩
    have g1 := same_new (o := .tup sv) (Same.refl H) ht1
    have at1 : upd H t1 (.tup sv) t1 = some (.tup sv) := upd_same
    revert g1 at1
    generalize upd H t1 (.tup sv) = H1
    intro g1 at1
    have ow1 := ow.grow g1
    have sp1 := sp.grow g1
    obtain ⟨dj, rk, ln, j1, _⟩ := (JobsAt.up sp1.ext ow.fj).ex
    refine ⟨_, rfl, _, _, _, _, _, rfl, (ow1.prc), T.cl_Processor, T.t_Processor_jobs, rfl, P.jo, dj, _, rfl, j1, rfl, P.jo, P.ro, S.ws, rv, rfl, JobsAt.up sp1.ext ow.fj, sp1.c7, by have := h2.length; omega, fun a H2 g2 hp hp1 => ?_⟩
    refine ⟨_, _, rfl, .inl ⟨l_of hp1, fun t2 ht2 => ?_⟩⟩
    have g3 := same_new (o := .tup rv) g2 ht2
    have at2 : upd H2 t2 (.tup rv) t2 = some (.tup rv) := upd_same
    revert g3 at2
    generalize upd H2 t2 (.tup rv) = H3
    intro g3 at2
    refine ⟨small8 (by simp), fun t ht => ?_⟩
    have g4 := same_new (o := .tup [.int p.bar, .ref t1, .ref t2]) (Same.refl H3) ht
    have gA := Same.tr g1 (Same.tr g3 g4)
    have eA := Same.tr sp.ext gA
    refine q t _ gA (dq_tpl (t_of upd_same) ?_)
    have d1 := dq_tpl (K := K) (t_of (Same.tr g3 g4 _ _ at1)) (dq_pair (f := c4D) (fun _ _ z => c4_dq (CallAt.up eA z)) h1)
    have d2 := dq_tpl (K := K) (t_of (g4 _ _ at2)) (dq_pair (f := pd) (fun _ _ z => row_dq (RowAt.up eA z)) h2)
    simp only [DqAll]
    exact ⟨_, _, rfl, by rw [Dq], _, _, rfl, d1, _, _, rfl, d2, rfl⟩
theorem okP_Processor_spent_ticks {fd : FuncData} (T : Txt K mg) (F : FunD K "spent_ticks" "Processor.spent_ticks" (C8.fnArgs s_Processor_spent_ticks) (C8.fnBody s_Processor_spent_ticks) (C8.fnScope s_Processor_spent_ticks) [] [] (He.ma K (aC "Processor" K) "spent_ticks") fd) :
    C8.Met P w K mg base 1 (aC "Processor" K) "spent_ticks" (sp_Processor_spent_ticksH K) [] := by
  refine C8.met0 T.cl_Processor T.m_Processor_spent_ticks (fun_c8 F) (F.bindsN fun _ _ _ _ _ _ us hl => match us, hl with | [_], _ => rfl) sc_Processor_spent_ticks (fun vs H Q E h => ?_) (fun cdv A outer s H vs Q E hr h => ?_)
  · obtain ⟨_, _, _, _, _, _, _, rfl, _⟩ := h
    rfl
  · have nd := sc_Processor_spent_ticks.nd
    have hu := hu_of hr
    obtain ⟨A, P, S, K0, b, p, M, rfl, ow, q⟩ := h
    refine ⟨_, (pss_one (ps_ret (pe_callTy call_tuple_of (by rfl) T.n_tuple (by decide +kernel) (pa_cons (pe_fld (pv 0) rfl) pa_nil)))), ?_⟩
    obtain ⟨sv, rv, h1, h2, sp⟩ := ow.ex
    have hpr := sp.c5
    exact ⟨_, rfl, _, _, _, _, _, rfl, hpr, T.cl_Processor, T.t_Processor_counts, rfl, _, _, rfl, .inl ⟨l_of sp.c8, fun a hp => q _ _ (same_new (Same.refl H) hp) upd_same⟩⟩
abbrev N_Single_state : List Str := ["self"]
theorem sc_Single_state : FnScope N_Single_state ["self"] (C8.fnScope s_Single_state) := C8.fnScope_by (by decide +kernel)
theorem ok_Single_state {fd : FuncData} (T : Txt K mg) (F : FunD K "state" "Single.state" (C8.fnArgs s_Single_state) (C8.fnBody s_Single_state) (C8.fnScope s_Single_state) [] [] (He.ma K (aC "Single" K) "state") fd) (c_board_state : C8.Met P w K mg base 5 (aC "Board" K) "board_state" (sp_Board_board_state K) []) (c_processor_state : C8.Met P w K mg base 4 (aC "Processor" K) "processor_state" (sp_Processor_processor_state K) []) :
    C8.Met P w K mg base 6 (aC "Single" K) "state" (sp_Single_state K) [] := by
  refine C8.met0 T.cl_Single T.m_Single_state (fun_c8 F) (F.bindsN fun _ _ _ _ _ _ us hl => match us, hl with | [_], _ => rfl) sc_Single_state (fun vs H Q E h => ?_) (fun cdv A outer s H vs Q E hr h => ?_)
  · obtain ⟨_, _, _, _, _, _, _, _, _, _, rfl, _⟩ := h
    rfl
  · have nd := sc_Single_state.nd
    have hu := hu_of hr
    obtain ⟨A, P, S, K0, b, p, si, dx, now, M, rfl, ow, hl, hr1, q⟩ := h
    refine ⟨_, (pss_one (ps_ret (pe_tup (pa_cons (C8.pe_mt0 c_board_state hr (by decide) (pe_fld (pv 0) rfl)) (pa_cons (C8.pe_mt0 c_processor_state hr (by decide) (pe_fld (pv 0) rfl)) pa_nil))))), ?_⟩
    have hsi := ow.fr
    obtain ⟨sv, rv, h1, h2, sp⟩ := ow.ex
    have hbo := sp.ext _ _ ow.fb.at_
    refine ⟨_, rfl, _, _, _, _, _, rfl, hsi, T.cl_Single, T.t_Single_board, rfl, A.bo, A.db, _, rfl, hbo, rfl, A, S, K0, b, _, rfl, ⟨ow.fb, ow.fl, sp⟩, fun t1 H1 g1 d1 => ?_⟩
    have ow1 := ow.grow g1
    have hsi1 := ow1.fr
    refine ⟨_, rfl, _, _, _, _, _, rfl, hsi1, T.cl_Single, T.t_Single_processor, rfl, P.pr, P.dp, _, rfl, ow1.prc, rfl, A, P, S, K0, b, p, _, rfl, ow1, hl, hr1, fun t2 H2 g2 d2 => ?_⟩
    refine ⟨small8 (by simp), fun t ht => ?_⟩
    have g3 := same_new (o := .tup [.ref t1, .ref t2]) (Same.refl H2) ht
    refine q t _ (Same.tr g1 (Same.tr g2 g3)) (dq_tpl (t_of upd_same) ?_)
    have d1 := Dq.up (Same.tr g2 g3) _ _ d1
    have d2 := Dq.up g3 _ _ d2
    simp only [DqAll]
    exact ⟨_, _, rfl, d1, _, _, rfl, d2, rfl⟩
abbrev N_Single_told : List Str := ["self"]
theorem sc_Single_told : FnScope N_Single_told ["self"] (C8.fnScope s_Single_told) := C8.fnScope_by (by decide +kernel)
theorem ok_Single_told {fd : FuncData} (T : Txt K mg) (F : FunD K "_told" "Single._told" (C8.fnArgs s_Single_told) (C8.fnBody s_Single_told) (C8.fnScope s_Single_told) [] [] (He.ma K (aC "Single" K) "_told") fd) (c_state : C8.Met P w K mg base 6 (aC "Single" K) "state" (sp_Single_state K) []) (c_spent_ticksH : C8.Met P w K mg base 1 (aC "Processor" K) "spent_ticks" (sp_Processor_spent_ticksH K) []) :
    C8.Met P w K mg base 7 (aC "Single" K) "_told" (sp_Single_told K) [] := by
  refine C8.met0 T.cl_Single T.m_Single_told (fun_c8 F) (F.bindsN fun _ _ _ _ _ _ us hl => match us, hl with | [_], _ => rfl) sc_Single_told (fun vs H Q E h => ?_) (fun cdv A outer s H vs Q E hr h => ?_)
  · obtain ⟨_, _, _, _, _, _, _, _, _, _, rfl, _⟩ := h
    rfl
  · have nd := sc_Single_told.nd
    have hu := hu_of hr
    obtain ⟨A, P, S, K0, b, p, si, dx, now, M, rfl, ow, hl, hr1, q⟩ := h
    refine ⟨_, (pss_one (ps_ret (pe_tup (pa_cons (C8.pe_mt0 c_state hr (by decide) (pv 0)) (pa_cons (pe_fld (pv 0) rfl) (pa_cons (C8.pe_mt0 c_spent_ticksH hr (by decide) (pe_fld (pv 0) rfl)) pa_nil)))))), ?_⟩
    refine ⟨_, rfl, si, dx, _, rfl, ow.fr, rfl, A, P, S, K0, b, p, si, dx, now, M, rfl, ow, hl, hr1, fun t1 H1 g1 d1 => ?_⟩
    have ow1 := ow.grow g1
    have hsi1 := ow1.fr
    refine ⟨_, rfl, _, _, _, _, _, rfl, hsi1, T.cl_Single, T.t_Single_now, rfl, ?_⟩
    refine ⟨_, rfl, _, _, _, _, _, rfl, hsi1, T.cl_Single, T.t_Single_processor, rfl, P.pr, P.dp, _, rfl, ow1.prc, rfl, A, P, S, K0, b, p, _, rfl, ow1, fun t2 H2 g2 a2 => ?_⟩
    refine ⟨small8 (by simp), fun t ht => ?_⟩
    have g3 := same_new (o := .tup [.ref t1, .int now, .ref t2]) (Same.refl H2) ht
    refine q t _ (Same.tr g1 (Same.tr g2 g3)) (dq_tpl (t_of upd_same) ?_)
    have d1 := Dq.up (Same.tr g2 g3) _ _ d1
    have d2 : Dq K _ (.tuple [.int p.c0, .int p.c1, .int p.c2, .int p.c3]) (.ref t2) := dq_tpl (t_of (g3 _ _ a2)) (by simp [DqAll, Dq])
    simp only [DqAll]
    exact ⟨_, _, rfl, d1, _, _, rfl, by rw [Dq], _, _, rfl, d2, rfl⟩
abbrev N_Setup_eq : List Str := ["self", "other"]
theorem sc_Setup_eq : FnScope N_Setup_eq ["self", "other"] (C8.fnScope s_Setup_eq) := C8.fnScope_by (by decide +kernel)
theorem ok_Setup_eq {fd : FuncData} (T : Txt K mg) (F : FunD K "__eq__" "Setup.__eq__" (C8.fnArgs s_Setup_eq) (C8.fnBody s_Setup_eq) (C8.fnScope s_Setup_eq) [] [] (He.ma K (aC "Setup" K) "__eq__") fd) :
    C8.Met P w K mg base 1 (aC "Setup" K) "__eq__" (sp_Setup_eq K) [] := by
  refine C8.met0 T.cl_Setup T.m_Setup_eq (fun_c8 F) (F.bindsN fun _ _ _ _ _ _ us hl => match us, hl with | [_, _], _ => rfl) sc_Setup_eq (fun vs H Q E h => ?_) (fun cdv A outer s H vs Q E hr h => ?_)
  · obtain ⟨_, _, _, _, rfl, _⟩ := h
    rfl
  · have nd := sc_Setup_eq.nd
    have hu := hu_of hr
    obtain ⟨x, y, S, S', rfl, hx, hy, ok, ok', q⟩ := h
    refine ⟨_, (pss_one (ps_ret (pe_and (pe_callB (C8.call_isC T.i_Setup) (by rfl) T.n_isinstance (by decide +kernel) (pa_cons (pv 1) (pa_cons (pe_glob (v := .ref (aC "Setup" K)) rfl T.g_Setup rfl) pa_nil))) (pe_and (pe_cmpR (op_eqD (hu64_of hr)) (pe_fld (pv 0) rfl) (pe_fld (pv 1) rfl) (nomark _)) (pe_one (pe_cmpR (op_eqD (hu64_of hr)) (pe_fld (pv 0) rfl) (pe_fld (pv 1) rfl) (nomark _))))))), ?_⟩
    obtain ⟨dx, la, wa, bn, oa, xs, h1, h2, h3, h4, h5, h6⟩ := hx
    obtain ⟨dx', la', wa', bn', oa', xs', h1', h2', h3', h4', h5', h6'⟩ := hy
    refine ⟨_, rfl, y, dx', _, rfl, h1', true, rfl, iteT ?_⟩
    refine ⟨_, rfl, _, _, _, _, _, rfl, h1, T.cl_Setup, T.t_Setup_lines, rfl, _, rfl, _, _, _, _, _, rfl, h1', T.cl_Setup, T.t_Setup_lines, rfl, _, _, Dq.dp _ _ (ls_dq h2), Dq.dp _ _ (ls_dq h2'), ls_sh ok, ls_sh ok', ?_⟩
    unfold eqSD at q
    cases e1 : PyData.eqv (lsD S.ls) (lsD S'.ls) with
    | false =>
      rw [e1] at q
      exact ⟨false, rfl, iteF q⟩
    | true =>
      rw [e1, Bool.true_and] at q
      refine ⟨true, rfl, iteT ?_⟩
      exact ⟨_, rfl, _, _, _, _, _, rfl, h1, T.cl_Setup, T.t_Setup_works, rfl, _, rfl, _, _, _, _, _, rfl, h1', T.cl_Setup, T.t_Setup_works, rfl, _, _, Dq.dp _ _ (ws_dq h3), Dq.dp _ _ (ws_dq h3'), ws_sh ok, ws_sh ok', q⟩
abbrev N_Single_eq : List Str := ["self", "other"]
theorem sc_Single_eq : FnScope N_Single_eq ["self", "other"] (C8.fnScope s_Single_eq) := C8.fnScope_by (by decide +kernel)
theorem ok_Single_eq {fd : FuncData} (T : Txt K mg) (F : FunD K "__eq__" "Single.__eq__" (C8.fnArgs s_Single_eq) (C8.fnBody s_Single_eq) (C8.fnScope s_Single_eq) [] [] (He.ma K (aC "Single" K) "__eq__") fd) (c_eqS : C8.Met P w K mg base 1 (aC "Setup" K) "__eq__" (sp_Setup_eq K) []) (c_told : C8.Met P w K mg base 7 (aC "Single" K) "_told" (sp_Single_told K) []) :
    C8.Met P w K mg base 8 (aC "Single" K) "__eq__" (sp_Single_eq K) [] := by
  refine C8.met0 T.cl_Single T.m_Single_eq (fun_c8 F) (F.bindsN fun _ _ _ _ _ _ us hl => match us, hl with | [_, _], _ => rfl) sc_Single_eq (fun vs H Q E h => ?_) (fun cdv A outer s H vs Q E hr h => ?_)
  · obtain ⟨_, _, _, _, _, _, _, _, _, _, _, _, _, _, _, _, _, _, _, _, rfl, _⟩ := h
    rfl
  · have nd := sc_Single_eq.nd
    have hu := hu_of hr
    obtain ⟨A, P, S, K0, b, p, si, dx, now, M, A', P', S', K0', b', p', si', dx', now', M', rfl, ow, ow', hl, hr1, hl', hr1', n1, n2, q⟩ := h
    refine ⟨_, (pss_one (ps_ret (pe_and (pe_callB (C8.call_isC T.i_Single) (by rfl) T.n_isinstance (by decide +kernel) (pa_cons (pv 1) (pa_cons (pe_glob (v := .ref (aC "Single" K)) rfl T.g_Single rfl) pa_nil))) (pe_and (pe_cmpR (C_eq c_eqS hr (by decide)) (pe_fld (pv 0) rfl) (pe_fld (pv 1) rfl) (nomark _)) (pe_one (pe_cmpR (op_eqD (hu64_of hr)) (C8.pe_mt0 c_told hr (by decide) (pv 0)) (C8.pe_mt0 c_told hr (by decide) (pv 1)) (nomark _))))))), ?_⟩
    have hsi := ow.fr
    have hsi' := ow'.fr
    have hsu := SetupAt.up ow.ext ow.fb.su
    have hsu' := SetupAt.up ow'.ext ow'.fb.su
    obtain ⟨ds, _, _, _, _, _, hs3, _⟩ := hsu.ex
    obtain ⟨ds', _, _, _, _, _, hs3', _⟩ := hsu'.ex
    refine ⟨_, rfl, si', dx', _, rfl, hsi', true, rfl, iteT ?_⟩
    refine ⟨_, rfl, _, _, _, _, _, rfl, hsi, T.cl_Single, T.t_Single_setup, rfl, _, rfl, _, _, _, _, _, rfl, hsi', T.cl_Single, T.t_Single_setup, rfl, A.su, A'.su, _, _, _, _, rfl, rfl, hs3, hs3', A.su, A'.su, S, S', rfl, hsu, hsu', ow.fb.ok, ow'.fb.ok, _, rfl, ?_⟩
    cases e1 : eqSD S S' with
    | false =>
      rw [e1] at q
      exact ⟨false, rfl, iteF (q H (Same.refl H))⟩
    | true =>
      rw [e1, Bool.true_and] at q
      refine ⟨true, rfl, iteT ?_⟩
      refine ⟨_, rfl, si, dx, _, rfl, hsi, rfl, A, P, S, K0, b, p, si, dx, now, M, rfl, ow, hl, hr1, fun t1 H1 g1 d1 => ?_⟩
      have ow1 := ow'.grow g1
      refine ⟨_, rfl, si', dx', _, rfl, ow1.fr, rfl, A', P', S', K0', b', p', si', dx', now', M', rfl, ow1, hl', hr1', fun t2 H2 g2 d2 => ?_⟩
      exact ⟨_, _, Dq.dp _ _ (Dq.up g2 _ _ d1), Dq.dp _ _ d2, told_sh ow.fb.ok n1, told_sh ow'.fb.ok n2, q H2 (Same.tr g1 g2)⟩
abbrev N_Setup_sub : List Str := ["self", "other", "line"]
theorem sc_Setup_sub : FnScope N_Setup_sub ["self", "other"] (C8.fnScope s_Setup_sub) := C8.fnScope_by (by decide +kernel)
theorem ok_Setup_sub {fd : FuncData} (T : Txt K mg) (F : FunD K "__sub__" "Setup.__sub__" (C8.fnArgs s_Setup_sub) (C8.fnBody s_Setup_sub) (C8.fnScope s_Setup_sub) [] [] (He.ma K (aC "Setup" K) "__sub__") fd) (c_contains : C8.Met P w K mg base 1 (aC "Setup" K) "__contains__" (sp_Setup_contains K) []) (c_Setup : C8.Mak P w K mg base 6 "Setup" (aC "Setup" K) (sp_Setup_init K) []) :
    C8.Met P w K mg base 8 (aC "Setup" K) "__sub__" (sp_Setup_sub K) [] := by
  refine C8.met0 T.cl_Setup T.m_Setup_sub (fun_c8 F) (F.bindsN fun _ _ _ _ _ _ us hl => match us, hl with | [_, _], _ => rfl) sc_Setup_sub (fun vs H Q E h => ?_) (fun cdv A outer s H vs Q E hr h => ?_)
  · obtain ⟨_, _, _, _, _, rfl, _⟩ := h
    rfl
  · have nd := sc_Setup_sub.nd
    have hu := hu_of hr
    obtain ⟨su, S, l, K0, M, rfl, sp, hS0, ok, hl, ne, ao, q⟩ := h
    refine ⟨_, (pss_cons (ps_if (pt_cmpR (C_nin c_contains hr (by decide)) (pv 1) (pv 0) (by rfl)) (pss_one ps_never) pss_nil)
      (pss_one (ps_ret (C8.pe_mk c_Setup hr (by decide) rfl (pa_cons (pe_callTy call_tuple_of (by rfl) T.n_tuple (by decide +kernel) (pa_cons (pe_lc (own := [("line", 2)]) rfl nd (pi_tup (pe_fld (pv 0) rfl)) (blkOk_by (own := [("line", 2)]) (N := N_Setup_sub) (sc := (C8.fnScope s_Setup_sub)) (by decide +kernel)) (fun _ _ _ _ _ => (pg_name (i := 2) nd rfl (Or.inl rfl))) (fun _ _ _ _ _ => (pts_one (pt_cmpR op_ne (pe_ix (ix_tup : IxR _ (rIxT K)) (pv 2) pe_int (fun _ _ => rfl)) (pv 1) (nomark _)))) (fun _ _ _ _ _ => (pv 2))) pa_nil)) (pa_cons (pe_fld (pv 0) rfl) pa_nil)))))), ?_⟩
    have hS := SetupAt.up sp.ext hS0
    obtain ⟨dx, la, wa, bn, oa, xs, k1, k2, k3, k4, k5, k6⟩ := hS0
    have h1 := sp.ext _ _ k1
    refine ⟨_, rfl, _, rfl, su, dx, _, rfl, h1, ⟨su, S, _, rfl, hS, ok, _, rfl, false, by rw [decide_eq_true (List.mem_map_of_mem hl)]; rfl, iteF ?_⟩⟩
    obtain ⟨xs2, hs2, hp2⟩ := k2.ex
    have hlen := hp2.length
    have l12 := ok.ok.le
    refine ⟨_, rfl, _, _, _, _, _, rfl, h1, T.cl_Setup, T.t_Setup_lines, rfl, _, rfl, ⟨_, Same.tup sp.ext hs2⟩, fun D hD => ?_⟩
    refine lc_it (walk_tup (xs := xs2)) (fun i H' => ∃ acc, Sep K0 H' ((D, .lst acc) :: M) ∧ Paired (LineAt K K0) acc (lessL (S.ls.take i) l.name)) ⟨[], sp.own hD, .nil⟩ ?_ ?_ ?_
    · rintro i H' _ ⟨acc, sp', _⟩
      exact Same.tup sp'.ext hs2
    · rintro i v H3 H4 hi ⟨acc, sp', pa⟩ ⟨rfl, e2⟩
      obtain ⟨l', hl', hL⟩ := pget hp2 e2
      have hL' := hL
      obtain ⟨c, gg, hs5, rfl, hb, _⟩ := hL
      have hb' := Same.tup sp'.ext hb
      have hal := pa.length
      have hfl := List.length_filter_le (fun z : LineD => !decide (z.name = l.name)) (S.ls.take i)
      rw [List.length_take] at hfl
      refine ⟨rfl, _, rfl, _, _, _, _, rfl, rfl, hb', rfl, _, rfl, rfl, !decide (l'.name = l.name), by simp, ?_⟩
      have sn : lessL (S.ls.take (i + 1)) l.name = lessL (S.ls.take i) l.name ++ (if (!decide (l'.name = l.name)) = true then [l'] else []) := filter_snoc (fun z : LineD => !decide (z.name = l.name)) hl'
      cases e : decide (l'.name = l.name) with
      | true =>
        rw [e] at sn
        exact iteF ⟨acc, sp', by rw [sn]; simpa using pa⟩
      | false =>
        rw [e] at sn
        refine iteT ⟨_, rfl, _, sp'.c0, sml (m := 20) (by unfold lessL at hal; omega) (by decide), _, sp'.put0, ?_⟩
        rw [sn]
        exact Paired.snoc pa hL'
    rintro H3 ⟨acc, sp3, pa⟩
    rw [List.take_of_length_le (Nat.le_of_eq hlen.symm)] at pa
    refine ⟨_, _, rfl, .inl ⟨l_of sp3.c0, fun lt hlt => ?_⟩⟩
    have j6 := sp3.keep (o := .tup acc) hlt
    have at6 : upd K0 lt (.tup acc) lt = some (.tup acc) := upd_same
    have g6 := sp3.newk (o := .tup acc) hlt
    revert j6 at6 g6
    generalize upd K0 lt (.tup acc) = K6
    intro j6 at6 g6
    have sp6 := j6.tail
    have hsu6 := sp6.ext _ _ (g6 _ _ k1)
    refine ⟨_, rfl, _, _, _, _, _, rfl, hsu6, T.cl_Setup, T.t_Setup_works, rfl, ?_⟩
    refine fun x ds hx hds hne => ?_
    have t1 := sp6.obj (o := .own x) (o' := .ins (aC "Setup" K) ds []) hx hds hne
    have lessok : LsOk (lessL S.ls l.name) := ⟨fun z m => ok.ok.ok z (List.mem_filter.mp m).1, (ok.ok.nd).sublist (List.filter_sublist.map _), ne, Nat.le_trans (List.length_filter_le _ _) ok.ok.le⟩
    refine ⟨x, ds, lt, _, lessL S.ls l.name, S.ws, K6, _, rfl, t1, ⟨acc, t_of at6, pa.mono fun _ _ z => LineAt.up g6 z⟩, WorksAt.up g6 k3, lessok, ok.okw, ao, fun K8 H8 S' g8 sp8 sat eL eW ok' => ⟨rfl, ?_⟩⟩
    exact q K8 H8 x S' (Same.tr g6 g8) sp8 sat eL eW ok'
    
end
end Cb

/-! t[::-1] of a tuple -/
namespace HT
open PySem PyProof.Rows
section
variable {prog : Program} {w : World} {A : Around} {E : Value → Shared → Prop} {s : Shared}
theorem sliceApplied_rev {sl : Addr} {vl vu vs : Value} {n : Nat} {Q : Int × Int × Nat → Shared → Prop} (hs : s.heap.IsSliceOf sl vl vu vs) (pl : IsPart vl none) (pu : IsPart vu none) (ps : IsPart vs (some (-1)))
    (h : Q ((n : Int) - 1, -1, n) s) : wpAny (model prog w) A (Builtin.Slice.sliceApplied (.ref sl) (pure (n : Int))) Q E s := by
  obtain ⟨os, hos, hcs, hds⟩ := id hs
  unfold Builtin.Slice.sliceApplied Builtin.Slice.sliceFields
  refine wpAny_bind (wpAny_bind (wpAny_field hos hds (x := vl) rfl (wpAny_bind (wpAny_field hos hds (x := vu) rfl (wpAny_bind (wpAny_field hos hds (x := vs) rfl (wpAny_pure ?_)))))))
  refine wpAny_bind (slicePart_ ps ?_)
  show wpAny _ _ (if ((-1 : Int) == 0) = true then _ else _) _ _ s
  rw [if_neg (by decide)]
  refine wpAny_bind (slicePart_ pl (wpAny_bind (slicePart_ pu (wpAny_bind (wpAny_pure ?_)))))
  show wpAny _ _ (match Builtin.Slice.sliceAdjust none none (-1) (n : Int) with | (lo, hi) => pure (lo, (-1 : Int), Builtin.Slice.slicePlaces lo hi (-1))) _ _ s
  have e1 : Builtin.Slice.sliceAdjust none none (-1) (n : Int) = ((n : Int) - 1, -1) := rfl
  rw [e1]
  show wpAny _ _ (pure ((n : Int) - 1, (-1 : Int), Builtin.Slice.slicePlaces ((n : Int) - 1) (-1) (-1))) _ _ s
  have e2 : Builtin.Slice.slicePlaces ((n : Int) - 1) (-1) (-1) = n := by
    unfold Builtin.Slice.slicePlaces
    rw [if_neg (by decide)]
    have e3 : ((n : Int) - 1 - -1 - 1) / (- -1) = (n : Int) - 1 := by
      rw [show (- -1 : Int) = 1 by decide, Int.ediv_one]
      omega
    split
    · rw [e3]
      omega
    · omega
  rw [e2]
  exact wpAny_pure h
theorem fm_congr {α β : Type} {f g : α → Option β} : ∀ {l : List α}, (∀ m ∈ l, f m = g m) → l.filterMap f = l.filterMap g
  | [], _ => rfl
  | a :: l, h => by
    rw [List.filterMap_cons, List.filterMap_cons, h a List.mem_cons_self, fm_congr fun m hm => h m (List.mem_cons_of_mem _ hm)]
theorem pick_rev (xs : Array Value) : ((List.range xs.size).filterMap fun (m : Nat) => xs[((xs.size : Int) - 1 + (m : Int) * -1).toNat]?).toArray = xs.toList.reverse.toArray := by
  have z := PySem.W.krv_pick xs
  unfold PySem.slicePick at z
  rw [PySem.W.krv_bounds] at z
  have z : ((sliceRange ((xs.size : Int) - 1) (-1) (-1)).filterMap (xs[·]?)).toArray = xs.toList.reverse.toArray := z
  rw [PySem.W.krv_sliceRange, List.filterMap_map] at z
  rw [← z]
  congr 1
  refine fm_congr fun m hm => ?_
  have := List.mem_range.mp hm
  show xs[((xs.size : Int) - 1 + (m : Int) * -1).toNat]? = xs[xs.size - 1 - m]?
  rw [show ((xs.size : Int) - 1 + (m : Int) * -1).toNat = xs.size - 1 - m by omega]
theorem getItem_tuple_rev {t sl : Addr} {items : Array Value} {vl vu vs : Value} {Q : Value → Shared → Prop} (ht : IsTup s.heap t items) (hs : s.heap.IsSliceOf sl vl vu vs) (pl : IsPart vl none) (pu : IsPart vu none) (ps : IsPart vs (some (-1)))
    (h : Q (.ref s.heap.objs.size) { s with heap := s.heap.push { cls := .type "tuple", data := .seq items.toList.reverse.toArray } })
    (hsz : items.size ≤ sizeLine) : wpAny (model prog w) A (getItem (.ref t) (.ref sl)) Q E s := by
  have htake : sizeOk (.seq items.toList.reverse.toArray) := by
    show items.toList.reverse.toArray.size ≤ sizeLine
    rw [List.size_toArray, List.length_reverse, Array.length_toList]
    omega
  obtain ⟨os, hos, hcs, hds⟩ := id hs
  have hTs : s.TypeIs (.ref sl) "slice" := ⟨os, hos, hcs⟩
  unfold getItem
  try with_reducible refine wpAny_holding ?_
  first | refine wpAny_bind (wpAny_pure ?_) | skip
  refine wpAny_bind (wpAny_sequenceKey ht.typeIs (by decide) ?_)
  refine wpAny_bind (wpAny_callSpecial?_slot (name := Str.ofString "__getitem__") ht.typeIs PyProof.Rows.slot_tuple_getitem
    (wpAny_call_entry PyProof.Rows.slot_tuple_getitem ht.typeIs entry_tuple_getitem ?_ (args_tuple_getitem _ _)))
  show wpAny _ _ (Builtin.Tuple.tupleItemsOf (.ref t) >>= _) _ _ s
  refine wpAny_bind (tupleItemsOf_ ht ?_)
  refine wpAny_bind (wpAny_typeOf hTs ?_)
  rw [if_pos (by decide)]
  refine wpAny_bind (sliceApplied_rev hs pl pu ps ?_)
  have hno : ¬ ((((items.size : Int) - 1 == 0 && (-1 : Int) == 1) && items.size == items.size) = true) := by
    intro q
    rw [Bool.and_eq_true, Bool.and_eq_true] at q
    exact absurd q.1.2 (by decide)
  show wpAny _ _ (if ((items.size : Int) - 1 == 0 && (-1 : Int) == 1 && items.size == items.size) = true then _ else _) _ _ s
  rw [if_neg hno, pick_rev]
  first
    | exact wpAny_bind (m := Builtin.Tuple.tupleExact _) (wpAny_newObj_type (wpAny_pure ⟨_, rfl, wpAny_pure h⟩) htake)
    | exact wpAny_bind (m := Builtin.Tuple.tupleExact _) (wpAny_newObj_type (wpAny_bind (wpAny_pure (wpAny_pure ⟨_, rfl, wpAny_pure h⟩))) htake)
    | exact wpAny_bind (wpAny_bind (m := Builtin.Tuple.tupleExact _) (wpAny_newObj_type (wpAny_pure (wpAny_pure ⟨_, rfl, wpAny_pure h⟩)) htake))
    | exact wpAny_bind (wpAny_bind (m := Builtin.Tuple.tupleExact _) (wpAny_newObj_type (wpAny_pure ⟨_, rfl, wpAny_pure h⟩) htake))
end
end HT
namespace Cb
open PySem PySem.Spec PyProof.Rows L2
def tRevT (K : PySem.W.Frag) (te : TE) : TE := fun σ H Q => te σ H fun x H1 => ∃ a xs, x = .ref a ∧ SqT K H1 a xs ∧ ∀ p, H1 p = none → Q (.ref p) (upd H1 p (.tup xs.reverse))
theorem pe_revT {X : Cx} {e : Expr} {te : TE} {k : Nat} {p1 p2 p3 pos : Pos} (he : PE X e te) : PE X (.Subscript e (.Slice none none (some (.UnaryOp .USub (.Constant (.int 1) k p1) p2)) p3) pos) (tRevT X.K te) := by
  refine ⟨fun pins s σ H Q I h => ?_⟩
  refine Subscript_ (thn (he.run pins s σ H _ I h) fun v s1 ⟨x, H1, I1, r1, q1⟩ => ?_)
  obtain ⟨a, xs, ex, hx, q⟩ := q1
  subst ex
  cases r1
  have hst : PO X (some (.UnaryOp .USub (.Constant (.int 1) k p1) p2)) (tPart (tUn (rU fun i => .int (-i)) (tC (.int 1)))) := po_some (pe_un un_neg pe_int)
  refine wpAny_Slice (thn (po_none.run pins s1 σ H1 (fun o H2 => o = none ∧ H2 = H1) I1 ⟨rfl, rfl⟩) fun vl s2 ⟨l, H2, I2, pl, el, e2⟩ => ?_)
  subst el e2
  refine thn (po_none.run pins s2 σ H2 (fun o H3 => o = none ∧ H3 = H2) I2 ⟨rfl, rfl⟩) fun vu s3 ⟨u, H3, I3, pu, eu, e3⟩ => ?_
  subst eu e3
  refine thn (hst.run pins s3 σ H3 (fun o H4 => o = some (-1) ∧ H4 = H3) I3 ⟨1, rfl, -1, rfl, rfl, rfl⟩) fun vs s4 ⟨o, H4, I4, ps, eo, e4⟩ => ?_
  subst eo e4
  have I5 : Inv X pins σ H4 { s4 with heap := s4.heap.push { cls := .type "slice", data := .fields #[vl, vu, vs] } } := I4.kept (t' := s4.toks) fun b ob q => Heap.get?_push_of_some _ q
  obtain ⟨its, r, ht, hz⟩ := I5.tuple hx
  have hlen := r.length
  show wpAny (model X.prog X.w) X.A (subscriptTail e (.Slice none none (some (.UnaryOp .USub (.Constant (.int 1) k p1) p2)) p3) (.ref a) (.ref s4.heap.objs.size)) (EP X pins σ Q) X.xe { s4 with heap := s4.heap.push { cls := .type "slice", data := .fields #[vl, vu, vs] } }
  refine tail_any (ops := [.ref a, .ref s4.heap.objs.size]) ht.typeIs (PyProof.Rows.slot_tuple_getitem.lookup) ?_ (by with_unfolding_all rfl)
  refine HT.getItem_tuple_rev ht (Heap.IsSliceOf.new _ vl vu vs) pl pu ps ?_ (by rw [List.size_toArray]; omega)
  refine ⟨.ref _, _, I5.laid (t' := s4.toks) (o := .tup xs.reverse) (fun b ob q => Heap.get?_push_of_some _ q) (Nat.le_refl _) ?_, rfl, q _ (I5.hok.fresh (Nat.le_refl _))⟩
  exact ⟨by rw [List.length_reverse]; exact hz, _, r.reverse, IsTup.new _ _⟩
end Cb

/-! x == y by x's own def, where y is of another kind -/
namespace Cb
open PySem PySem.Spec PyProof.Rows L2
def HasTy (K : PySem.W.Frag) (H : Hp) (b : Addr) (tb : Value) : Prop := (∃ xs, SqL K H b xs ∧ tb = .type "list") ∨ ∃ C dy gs, H b = some (.ins C dy gs) ∧ tb = .ref C
def rOwnO (K : PySem.W.Frag) (C : Addr) (sp : Sp) (E : XK) : R2 := fun x y H Q => ∃ a dx fs b tb, x = .ref a ∧ y = .ref b ∧ H a = some (.ins C dx fs) ∧ HasTy K H b tb ∧ PySem.W.kitOne K tb (.ref C) = some false ∧ sp [.ref a, .ref b] H (fun v H' => ∃ r, v = .bl r ∧ Q v H') E
theorem nf_of {K : PySem.W.Frag} {C : Addr} {tb : Value} (h : PySem.W.kitOne K tb (.ref C) = some false) : PySem.W.notFirst K C tb = true := by
  unfold PySem.W.kitOne at h
  split at h
  · cases h
  · unfold PySem.W.kitCls at h
    simp only at h
    split at h
    · unfold PySem.W.notFirst
      rw [h]
      simp
    · cases h
section
variable {X : Cx} {k j : Nat} {C : Addr} {sp : Sp}
theorem C_eqO (M : C8.Met X.prog X.w X.K X.mg X.base k C "__eq__" sp []) (hr : Room j X.A) (hj : k ≤ j) : OpR X (compareOp .Eq) (rOwnO X.K C sp C8.E0) := by
  obtain ⟨f, fd, ps, ds, hc, hm, F, hb, hv⟩ := M.ex
  cases hv
  intro pins s σ H x y v u Q I rx ry h
  obtain ⟨a, dx, fs, b, tb, rfl, rfl, ha, hty, hk, hsp⟩ := h
  cases rx
  cases ry
  obtain ⟨mA, J, _⟩ := ins_get I.hok ha
  obtain ⟨od, J, _⟩ := J.look
  obtain ⟨m, hF⟩ := I.fr
  have hlook : PySem.W.Looks (model X.prog X.w) s.heap (typeOf (.ref b)) tb := by
    rcases hty with ⟨xs, hs, rfl⟩ | ⟨C', dy, gs, hb', rfl⟩
    · obtain ⟨its, _, ⟨o, n, e, hc, _⟩, _⟩ := I.list hs
      have z : PySem.W.Looks (model X.prog X.w) s.heap (typeOf (.ref b)) o.cls := (PySem.W.Looks.ld e).andThen .now
      rw [hc] at z
      exact z
    · obtain ⟨mB, J', _⟩ := ins_get I.hok hb'
      obtain ⟨od', J', _⟩ := J'.look
      exact J'.type
  show wpAny (model X.prog X.w) X.A (richCompare .Eq (.ref a) (.ref b)) (EP X pins σ Q) X.xe s
  refine PySem.W.cmp_K (op := .Eq) (tb := tb) (hr.mono hj).units0 hF I.ok.mod.kin J hlook (nf_of hk) hm.at_ hm.fn ?_
  have hl := F.len _ _ _ _ hsp
  have r2 : Vals [V.ref a, .ref b] [Value.ref a, Value.ref b] := .cons rfl (.cons rfl .nil)
  refine wpAny_call (codeAny_mono (F.run X.A X.stack s H ⟨[.ref a, Value.ref b], []⟩ [.ref a, .ref b] [.ref a, .ref b] _ C8.E0 (hr.mono hj) I.env0 (by
    have := hb s [.ref a, Value.ref b] I.kIn (by simpa using hl)
    simpa using this) r2 hsp) fun r s' hq => ?_)
  cases r with
  | error e => exact False.elim (by obtain ⟨_, _, _, _, z⟩ := hq)
  | ok fl =>
    cases fl with
    | ret w =>
      obtain ⟨z, H', I', rz, ⟨r, ez, q⟩⟩ := I.after hq
      subst ez
      cases rz
      exact ⟨.bl r, H', I', rfl, q⟩
    | next => exact False.elim hq
    | brk => exact False.elim hq
    | cont => exact False.elim hq
end
end Cb

namespace Cb
open PySem PySem.Spec PyProof.Rows L2

/-- what one Single owns -/
structure OneS (K : PySem.W.Frag) (K0 : Hp) (A : AdB) (P : AdP) (S : SetD) (si dx : Addr) (b : BdD) (p : PrD) (now : Int) (L : List (Addr × HO)) : Prop where
  fb : BoardAt K K0 A S
  fj : JobsAt K K0 P.jo S.ws P.ro
  fl : b.fl.length = 8
  ex : ∃ sv rv, Paired (CallAt K K0) sv p.stack ∧ Paired (RowAt K K0) rv p.rows ∧ L = BPl K A P S b p sv rv ++ [(si, siI K A P dx now)]
section
variable {K : PySem.W.Frag} {A : AdB} {P : AdP} {S : SetD} {row sc si dx : Addr} {K0 K1 H : Hp} {b : BdD} {p : PrD} {now : Int} {L M : List (Addr × HO)}
theorem OneS.up (g : Same K0 K1) (h : OneS K K0 A P S si dx b p now L) : OneS K K1 A P S si dx b p now L := by
  obtain ⟨fb, fj, fl, sv, rv, h1, h2, e⟩ := h
  exact ⟨BoardAt.up g fb, JobsAt.up g fj, fl, sv, rv, h1.mono fun _ _ z => CallAt.up g z, h2.mono fun _ _ z => RowAt.up g z, e⟩
theorem OneS.own (h : OneS K K0 A P S si dx b p now L) (s : Sep K0 H (L ++ M)) : Own K A P S K0 H b p ((si, siI K A P dx now) :: M) := by
  obtain ⟨fb, fj, fl, sv, rv, h1, h2, rfl⟩ := h
  rw [List.append_assoc] at s
  exact ⟨fb, fj, fl, sv, rv, h1, h2, by rw [lay_app]; exact s⟩
theorem Own.one (h : Own K A P S K0 H b p ((si, siI K A P dx now) :: M)) : ∃ L, OneS K K0 A P S si dx b p now L ∧ Sep K0 H (L ++ M) := by
  obtain ⟨fb, fj, fl, sv, rv, h1, h2, sp⟩ := h
  rw [lay_app] at sp
  exact ⟨_, ⟨fb, fj, fl, sv, rv, h1, h2, rfl⟩, by rw [List.append_assoc]; exact sp⟩
theorem Dr.perm {M' : List (Addr × HO)} (d : Dr K0 H row sc M) (q : M'.Perm M) : Dr K0 H row sc M' := by
  obtain ⟨i, g, x, hi, hg, sp⟩ := d
  exact ⟨i, g, x, hi, hg, sp.perm (q.cons _)⟩
theorem OneS.dr (h : OneS K K0 A P S si dx b p now L) (d : Dr K0 H row sc (L ++ M)) : ∃ N, Own K A P S K0 H b p ((si, siI K A P dx now) :: N) ∧ ∀ K1 H' b' p' now', Same K0 K1 → Own K A P S K1 H' b' p' ((si, siI K A P dx now') :: N) → ∃ L', OneS K K1 A P S si dx b' p' now' L' ∧ Dr K1 H' row sc (L' ++ M) := by
  obtain ⟨i, g, x, hi, hg, sp⟩ := d
  refine ⟨(row, rowO sc i g x) :: M, h.own (sp.perm List.perm_middle), fun K1 H' b' p' now' gg ow => ?_⟩
  obtain ⟨L', o, s⟩ := ow.one
  exact ⟨L', o, i, g, x, hi, hg, s.perm List.perm_middle.symm⟩
theorem Dr.cell {a : Addr} {x : HO} (d : Dr K0 H row sc M) (m : (a, x) ∈ M) : H a = some x := by
  obtain ⟨i, g, y, hi, hg, sp⟩ := d
  exact sp.at_ (List.mem_cons_of_mem _ m)
theorem perm12 {α : Type} {L1 L2 M : List α} : (L2 ++ (L1 ++ M)).Perm (L1 ++ (L2 ++ M)) := List.perm_append_comm_assoc _ _ _
end
/-- what holds for ever of a board: through all that happens in a tick -/
structure Kept (S : SetD) (I : BdD → Prop) : Prop where
  act : ∀ b st, StepOk S.ls S.ws st → I b → I (actB b st)
  bgn : ∀ b l, l ∈ S.ls → I b → I (beginB b l)
  fin : ∀ b l, l ∈ S.ls → I b → I (endB b l)
section
variable {S : SetD} {I : BdD → Prop}
theorem Kept.thru (k : Kept S I) : ∀ (l : List SD) (j : Nat) (b : BdD) (p : PrD), (∀ st ∈ l, StepOk S.ls S.ws st) → I b → I (thru S.ws l j b p).2.1
  | [], _, _, _, _, h => h
  | st :: r, j, b, p, ok, h => by
    rw [Cb.thru]
    split
    · exact k.thru r _ _ _ (fun s m => ok s (List.mem_cons_of_mem _ m)) (k.act _ _ (ok st List.mem_cons_self) h)
    · exact h
theorem Kept.go (k : Kept S I) {b : BdD} {p : PrD} (ok : SetOk S) (hc : ∀ c ∈ p.stack, c.line ∈ S.ls) (h : I b) : I (goA S.ws b p).1 := by
  rcases List.eq_nil_or_concat p.stack with q | ⟨r, c, q⟩
  · rw [goA_nil q]
    exact h
  · rw [List.concat_eq_append] at q
    have hm := hc c (by rw [q]; simp)
    have z := k.thru (c.line.steps.drop c.step) c.step b { p with stack := r } (fun st m => ok.all c.line hm st (List.mem_of_mem_drop m)) h
    rw [goA_snoc q]
    simp only
    split
    · exact z
    · exact k.fin _ _ hm z
theorem Kept.on (k : Kept S I) (ok : SetOk S) : ∀ (n : Nat) (b : BdD) (p : PrD), GoodA S b p → I b → I (onA S.ws n b p).1
  | 0, _, _, _, h => h
  | n + 1, b, p, g, h => by
    cases q : passes b p with
    | false =>
      rw [onA_no q]
      exact h
    | true =>
      have G := onA_good ok 1 b p g
      rw [onA_yes q] at G ⊢
      exact k.on ok n _ _ G (k.go ok (fun c m => (g.calls c m).ln) h)
theorem Kept.take (k : Kept S I) {b : BdD} {p : PrD} {ls : List LineD} (ok : SetOk S) (g : GoodA S b p) (hls : ∀ l ∈ ls, l ∈ S.ls) (h : I b) : I (takeA S.ws b p ls).1 := by
  cases ls with
  | nil => exact h
  | cons l ls =>
    by_cases hb : floorA p < l.rank
    · rw [show takeA S.ws b p (l :: ls) = ((goA S.ws (beginB b l) { p with stack := p.stack ++ [⟨l, 0, 0, p.bar⟩] }).1, (goA S.ws (beginB b l) { p with stack := p.stack ++ [⟨l, 0, 0, p.bar⟩] }).2.1, .bgn l :: (goA S.ws (beginB b l) { p with stack := p.stack ++ [⟨l, 0, 0, p.bar⟩] }).2.2) from if_pos hb]
      refine k.go ok (fun c m => ?_) (k.bgn _ _ (hls l List.mem_cons_self) h)
      rcases List.mem_append.mp m with m | m
      · exact (g.calls c m).ln
      · obtain rfl := List.mem_singleton.mp m
        exact hls l List.mem_cons_self
    · rw [show takeA S.ws b p (l :: ls) = (b, p, []) from if_neg hb]
      exact h
theorem Kept.spend (k : Kept S I) {b : BdD} {p : PrD} (ok : SetOk S) (g : GoodA S b p) (h : I b) : I (spendA S.ws b p).1 := by
  rcases List.eq_nil_or_concat p.stack with e | ⟨r, c, e⟩
  · rw [spendA_nil e]
    split
    · exact h
    · split <;> exact h
  · rw [List.concat_eq_append] at e
    have hc := g.calls c (by rw [e]; simp)
    rcases hc.st with ⟨n, hn, h0, h1⟩ | ⟨f, hf, hz⟩
    · rw [spendA_run e hn]
      split
      · exact h
      · refine k.go ok (fun c' m => ?_) h
        rcases List.mem_append.mp m with m | m
        · exact (g.calls c' (by rw [e]; simp [m])).ln
        · obtain rfl := List.mem_singleton.mp m
          exact hc.ln
    · rw [spendA_await e hf]
      exact h
theorem ready_in {b : BdD} (ok : SetOk S) : (∀ l ∈ (linesO S).filter (readyB b), l ∈ S.ls) ∧ ∀ l ∈ (linesO S).filter (readyB b), b.und l.name = false :=
  ⟨fun l m => linesO_mem ok (List.mem_filter.mp m).1, fun l m => by
    have z := (List.mem_filter.mp m).2
    unfold readyB at z
    simp at z
    exact z.2⟩
theorem Kept.tick (k : Kept S I) {b : BdD} {p : PrD} (ok : SetOk S) (g : GoodA S b p) (h : I b) : I (tickA S.ws S b p).1 := by
  obtain ⟨hrd, hru⟩ := ready_in (b := b) ok
  have G1 := takeA_good ok g hrd hru
  have G2 := onA_good ok (takeA S.ws b p ((linesO S).filter (readyB b))).2.1.stack.length _ _ G1
  have T1 := k.take ok g hrd h
  have T2 := k.on ok (takeA S.ws b p ((linesO S).filter (readyB b))).2.1.stack.length _ _ G1 T1
  unfold tickA
  exact k.spend ok G2 T2
end

theorem Same.del {K0 K1 : Hp} {a : Addr} (g : Same K0 K1) (h : K0 a = none) : Same K0 (del K1 a) := fun b o z => by
  unfold Cb.del
  rw [if_neg (fun e => by rw [e, h] at z; cases z)]
  exact g b o z
theorem del_none {K1 : Hp} {a : Addr} : del K1 a a = none := if_pos rfl
theorem Sep.weakR {K0 H : Hp} {L M : List (Addr × HO)} (s : Sep K0 H (L ++ M)) : Sep K0 H M := Sep.weak (L := M) (M := L) (s.perm List.perm_append_comm)
theorem permABC {α : Type} (a b c M : List α) : (a ++ (b ++ (c ++ M))).Perm (c ++ (b ++ (a ++ M))) := by
  have h1 : (a ++ (b ++ (c ++ M))).Perm (a ++ (c ++ (b ++ M))) := (List.perm_append_comm_assoc b c M).append_left a
  have h2 : (a ++ (c ++ (b ++ M))).Perm (c ++ (a ++ (b ++ M))) := List.perm_append_comm_assoc a c _
  have h3 : (c ++ (a ++ (b ++ M))).Perm (c ++ (b ++ (a ++ M))) := (List.perm_append_comm_assoc a b M).append_left c
  exact h1.trans (h2.trans h3)
def BL (A : AdB) (S : SetD) (b : BdD) : List (Addr × HO) := layB A S b []
theorem layB_app {A : AdB} {S : SetD} {b : BdD} {M : List (Addr × HO)} : layB A S b M = BL A S b ++ M := rfl
def P4 (K : PySem.W.Frag) (A : AdB) (P : AdP) (p : PrD) (sv rv : List V) : List (Addr × HO) := layP K A P p sv rv []
theorem layP_app {K : PySem.W.Frag} {A : AdB} {P : AdP} {p : PrD} {sv rv : List V} {M : List (Addr × HO)} : layP K A P p sv rv M = P4 K A P p sv rv ++ M := rfl
def boI (K : PySem.W.Frag) (db su r d u f g : Addr) : HO := .ins (aC "Board" K) db [("_setup", .ref su), ("_rung", .ref r), ("_disabled", .ref d), ("_under_way", .ref u), ("_flags", .ref f), ("_merges", .ref g)]
def jqI (K : PySem.W.Frag) (dx rk ln ro : Addr) : HO := .ins (aC "WorkQueue" K) dx [("_ranks", .ref rk), ("_lengths", .ref ln), ("_rows", .ref ro)]
def sp_Board_take_over (K : PySem.W.Frag) : Sp := fun vs H Q _ => ∃ (x db su r d u f g : Addr) (A : AdB) (S : SetD) (K0 : Hp) (b : BdD) (M : List (Addr × HO)), vs = [.ref x, .ref A.bo] ∧ BoardAt K K0 A S ∧ b.fl.length = 8 ∧ Sep K0 H ((x, boI K db su r d u f g) :: layB A S b M) ∧
  ∀ H' r d u f g, Sep K0 H' ((x, boI K db su r d u f g) :: layB ⟨su, x, db, r, d, u, f, g⟩ S b (layB A S b M)) → Q .non H'
def sp_Board_copied_board (K : PySem.W.Frag) : Sp := fun vs H Q _ => ∃ (A : AdB) (S : SetD) (K0 : Hp) (b : BdD) (M : List (Addr × HO)), vs = [.ref A.bo] ∧ OwnB K A S K0 H b M ∧
  ∀ K1 H' A', Same K0 K1 → A'.su = A.su → BoardAt K K1 A' S → OwnB K A S K1 H' b (layB A' S b M) → Q (.ref A'.bo) H'
def sp_WorkQueue_copy_rows (K : PySem.W.Frag) : Sp := fun vs H Q _ => ∃ (x dx rk ln ro0 jo ro : Addr) (ws : List WorkD) (rv : List V) (K0 : Hp) (M : List (Addr × HO)), vs = [.ref x, .ref jo] ∧ JobsAt K K0 jo ws ro ∧ rv.length ≤ 4000 ∧ (ro, HO.lst rv) ∈ M ∧ Sep K0 H ((x, jqI K dx rk ln ro0) :: M) ∧
  ∀ H' p, Sep K0 H' ((x, jqI K dx rk ln p) :: (p, .lst rv) :: M) → Q .non H'
def sp_Processor_copied_onto (K : PySem.W.Frag) : Sp := fun vs H Q _ => ∃ (A : AdB) (P : AdP) (S : SetD) (K0 : Hp) (b : BdD) (p : PrD) (M : List (Addr × HO)) (B : AdB) (b' : BdD), vs = [.ref P.pr, .ref B.bo] ∧ B.su = A.su ∧ BoardAt K K0 B S ∧ b'.fl.length = 8 ∧ Own K A P S K0 H b p (layB B S b' M) ∧ p.stack.length ≤ 3900 ∧ p.rows.length ≤ 3900 ∧
  ∀ K1 H' P' sv' rv', Same K0 K1 → JobsAt K K1 P'.jo S.ws P'.ro → Paired (CallAt K K1) sv' p.stack → Paired (RowAt K K1) rv' p.rows → Own K A P S K1 H' b p (layB B S b' (layP K B P' p sv' rv' M)) → Q (.ref P'.pr) H'
def sp_Single_copied (K : PySem.W.Frag) : Sp := fun vs H Q _ => ∃ (A : AdB) (P : AdP) (S : SetD) (K0 : Hp) (b : BdD) (p : PrD) (si dx : Addr) (now : Int) (M : List (Addr × HO)), vs = [.ref si] ∧ Own K A P S K0 H b p ((si, siI K A P dx now) :: M) ∧ p.stack.length ≤ 3900 ∧ p.rows.length ≤ 3900 ∧
  ∀ K1 H' A' P' si' dx' L', Same K0 K1 → A'.su = A.su → OneS K K1 A' P' S si' dx' b p now L' → Own K A P S K1 H' b p ((si, siI K A P dx now) :: (L' ++ M)) → Q (.ref si') H'
/-- == of a Single with what is no Single -/
def sp_Single_eqO (K : PySem.W.Frag) : Sp := fun vs H Q _ => ∃ (A : AdB) (P : AdP) (S : SetD) (K0 : Hp) (b : BdD) (p : PrD) (si dx : Addr) (now : Int) (M : List (Addr × HO)) (y : Addr) (t : Value), vs = [.ref si, .ref y] ∧ Own K A P S K0 H b p ((si, siI K A P dx now) :: M) ∧ TyX K H (.ref y) t ∧ PySem.W.kitOne K t (.ref (aC "Single" K)) = some false ∧ Q (.bl false) H

def sp_Processor_call_rowsF (K : PySem.W.Frag) : Sp := fun vs H Q _ => ∃ (A : AdB) (P : AdP) (S : SetD) (K0 : Hp) (b : BdD) (p : PrD) (M : List (Addr × HO)), vs = [.ref P.pr] ∧ Own K A P S K0 H b p M ∧ p.stack.length ≤ 3900 ∧
  ∀ K1 H' a ev, Same K0 K1 → Own K A P S K1 H' b p ((a, .lst ev) :: M) → Paired (C3At K K1) ev p.stack → Q (.ref a) H'
def sp_Processor_work_rowsF (K : PySem.W.Frag) : Sp := fun vs H Q _ => ∃ (A : AdB) (P : AdP) (S : SetD) (K0 : Hp) (b : BdD) (p : PrD) (M : List (Addr × HO)), vs = [.ref P.pr] ∧ Own K A P S K0 H b p M ∧ p.rows.length ≤ 3900 ∧
  ∀ K1 H' a ev, Same K0 K1 → Own K A P S K1 H' b p ((a, .lst ev) :: M) → Paired (RowAt K K1) ev p.rows → Q (.ref a) H'
def sp_Single_waitingF (K : PySem.W.Frag) : Sp := fun vs H Q _ => ∃ (A : AdB) (P : AdP) (S : SetD) (K0 : Hp) (b : BdD) (p : PrD) (si dx : Addr) (now : Int) (M : List (Addr × HO)), vs = [.ref si] ∧ Own K A P S K0 H b p ((si, siI K A P dx now) :: M) ∧ 
  ∀ K1 H' a ev, Same K0 K1 → Own K A P S K1 H' b p ((a, .lst ev) :: (si, siI K A P dx now) :: M) → ev.length ≤ 12 → Q (.ref a) H'
def sp_Single_maskedF (K : PySem.W.Frag) : Sp := fun vs H Q _ => ∃ (A : AdB) (P : AdP) (S : SetD) (K0 : Hp) (b : BdD) (p : PrD) (si dx : Addr) (now : Int) (M : List (Addr × HO)), vs = [.ref si] ∧ Own K A P S K0 H b p ((si, siI K A P dx now) :: M) ∧ 
  ∀ K1 H' a ev, Same K0 K1 → Own K A P S K1 H' b p ((a, .lst ev) :: (si, siI K A P dx now) :: M) → ev.length ≤ 12 → Q (.ref a) H'
def sp_Single_highsF (K : PySem.W.Frag) : Sp := fun vs H Q _ => ∃ (A : AdB) (P : AdP) (S : SetD) (K0 : Hp) (b : BdD) (p : PrD) (si dx : Addr) (now : Int) (M : List (Addr × HO)), vs = [.ref si] ∧ Own K A P S K0 H b p ((si, siI K A P dx now) :: M) ∧ 
  ∀ K1 H' a ev, Same K0 K1 → Own K A P S K1 H' b p ((a, .lst ev) :: (si, siI K A P dx now) :: M) → ev.length ≤ 12 → Q (.ref a) H'
def sp_Single_flags_upF (K : PySem.W.Frag) : Sp := fun vs H Q _ => ∃ (A : AdB) (P : AdP) (S : SetD) (K0 : Hp) (b : BdD) (p : PrD) (si dx : Addr) (now : Int) (M : List (Addr × HO)), vs = [.ref si] ∧ Own K A P S K0 H b p ((si, siI K A P dx now) :: M) ∧ 
  ∀ K1 H' a ev, Same K0 K1 → Own K A P S K1 H' b p ((a, .lst ev) :: (si, siI K A P dx now) :: M) → ev.length ≤ 12 → Q (.ref a) H'
def sp_Single_callsF (K : PySem.W.Frag) : Sp := fun vs H Q _ => ∃ (A : AdB) (P : AdP) (S : SetD) (K0 : Hp) (b : BdD) (p : PrD) (si dx : Addr) (now : Int) (M : List (Addr × HO)), vs = [.ref si] ∧ Own K A P S K0 H b p ((si, siI K A P dx now) :: M) ∧ p.stack.length ≤ 3900 ∧
  ∀ K1 H' a ev, Same K0 K1 → Own K A P S K1 H' b p ((a, .lst ev) :: (si, siI K A P dx now) :: M) → ev.length = p.stack.length → Q (.ref a) H'
def sp_Single_queueF (K : PySem.W.Frag) : Sp := fun vs H Q _ => ∃ (A : AdB) (P : AdP) (S : SetD) (K0 : Hp) (b : BdD) (p : PrD) (si dx : Addr) (now : Int) (M : List (Addr × HO)), vs = [.ref si] ∧ Own K A P S K0 H b p ((si, siI K A P dx now) :: M) ∧ p.rows.length ≤ 3900 ∧
  ∀ K1 H' a ev, Same K0 K1 → Own K A P S K1 H' b p ((a, .lst ev) :: (si, siI K A P dx now) :: M) → ev.length = p.rows.length → Q (.ref a) H'

section
variable {P : Program} {w : World} {K : PySem.W.Frag} {mg : Str → Option Value} {base : Heap}

abbrev N_Board_take_over : List Str := ["self", "other"]
theorem sc_Board_take_over : FnScope N_Board_take_over ["self", "other"] (C8.fnScope s_Board_take_over) := C8.fnScope_by (by decide +kernel)
theorem ok_Board_take_over {fd : FuncData} (T : Txt K mg) (F : FunD K "take_over" "Board.take_over" (C8.fnArgs s_Board_take_over) (C8.fnBody s_Board_take_over) (C8.fnScope s_Board_take_over) [] [] (He.ma K (aC "Board" K) "take_over") fd) :
    C8.Met P w K mg base 1 (aC "Board" K) "take_over" (sp_Board_take_over K) [] := by
  refine C8.met0 T.cl_Board T.m_Board_take_over (fun_c8 F) (F.bindsN fun _ _ _ _ _ _ us hl => match us, hl with | [_, _], _ => rfl) sc_Board_take_over (fun vs H Q E h => ?_) (fun cdv A outer s H vs Q E hr h => ?_)
  · obtain ⟨_, _, _, _, _, _, _, _, _, _, _, _, _, rfl, _⟩ := h
    rfl
  · have nd := sc_Board_take_over.nd
    have hu := hu_of hr
    obtain ⟨x, db, su, r0, d0, u0, f0, g0, A, S, K0, b, M, rfl, B0, hfl, sp, q⟩ := h
    refine ⟨_, (pss_cons (ps_fld (pv 0) (pe_callTy call_dictD (by rfl) T.n_dict (by decide +kernel) (pa_cons (pe_fld (pv 1) rfl) pa_nil)) rfl)
      (pss_cons (ps_fld (pv 0) (pe_callTy call_dictD (by rfl) T.n_dict (by decide +kernel) (pa_cons (pe_fld (pv 1) rfl) pa_nil)) rfl)
      (pss_cons (ps_fld (pv 0) (pe_callTy call_dictD (by rfl) T.n_dict (by decide +kernel) (pa_cons (pe_fld (pv 1) rfl) pa_nil)) rfl)
      (pss_cons (ps_fld (pv 0) (pe_callTy call_list_of (by rfl) T.n_list (by decide +kernel) (pa_cons (pe_fld (pv 1) rfl) pa_nil)) rfl)
      (pss_one (ps_fld (pv 0) (pe_callTy call_dictD (by rfl) T.n_dict (by decide +kernel) (pa_cons (pe_fld (pv 1) rfl) pa_nil)) rfl)))))), ?_⟩
    have hbo := sp.ext _ _ B0.at_
    refine ⟨_, rfl, _, _, _, _, _, rfl, hbo, T.cl_Board, T.t_Board_rung, rfl, A.r, _, rfl, .inl (sp.at_ (a := A.r) (o := .dK (bd S.order b.rung)) (by simp [layB])), fun r hr => ?_⟩
    have t0 := (sp.own (o := .dK (bd S.order b.rung)) hr).swap
    refine ⟨_, rfl, _, _, _, _, rfl, t0.c0, T.cl_Board, T.t_Board_rung, (by simp), ?_⟩
    have s0 := t0.put0 (o' := boI K db su r d0 u0 f0 g0)
    have hbo1 := s0.ext _ _ B0.at_
    refine ⟨_, rfl, _, _, _, _, _, rfl, hbo1, T.cl_Board, T.t_Board_disabled, rfl, A.d, _, rfl, .inl (s0.at_ (a := A.d) (o := .dK (bd S.order b.dis)) (by simp [layB])), fun d hd => ?_⟩
    have t1 := (s0.own (o := .dK (bd S.order b.dis)) hd).swap
    refine ⟨_, rfl, _, _, _, _, rfl, t1.c0, T.cl_Board, T.t_Board_disabled, (by simp), ?_⟩
    have s1 := t1.put0 (o' := boI K db su r d u0 f0 g0)
    have hbo2 := s1.ext _ _ B0.at_
    refine ⟨_, rfl, _, _, _, _, _, rfl, hbo2, T.cl_Board, T.t_Board_under_way, rfl, A.u, _, rfl, .inl (s1.at_ (a := A.u) (o := .dK (bd S.order b.und)) (by simp [layB])), fun u hu => ?_⟩
    have t2 := (s1.own (o := .dK (bd S.order b.und)) hu).swap
    refine ⟨_, rfl, _, _, _, _, rfl, t2.c0, T.cl_Board, T.t_Board_under_way, (by simp), ?_⟩
    have s2 := t2.put0 (o' := boI K db su r d u f0 g0)
    have hbo3 := s2.ext _ _ B0.at_
    refine ⟨_, rfl, _, _, _, _, _, rfl, hbo3, T.cl_Board, T.t_Board_flags, rfl, _, _, rfl, .inl (l_of (s2.at_ (a := A.fl) (o := .lst (b.fl.map V.bl)) (by simp [layB]))), fun f hf => ?_⟩
    have t3 := (s2.own (o := .lst (b.fl.map V.bl)) hf).swap
    refine ⟨_, rfl, _, _, _, _, rfl, t3.c0, T.cl_Board, T.t_Board_flags, (by simp), ?_⟩
    have s3 := t3.put0 (o' := boI K db su r d u f g0)
    have hbo4 := s3.ext _ _ B0.at_
    refine ⟨_, rfl, _, _, _, _, _, rfl, hbo4, T.cl_Board, T.t_Board_merges, rfl, A.mg, _, rfl, .inl (s3.at_ (a := A.mg) (o := .dK (md S.order b.mg)) (by simp [layB])), fun g hg => ?_⟩
    have t4 := (s3.own (o := .dK (md S.order b.mg)) hg).swap
    refine ⟨_, rfl, _, _, _, _, rfl, t4.c0, T.cl_Board, T.t_Board_merges, (by simp), ?_⟩
    have s4 := t4.put0 (o' := boI K db su r d u f g)
    have hbo5 := s4.ext _ _ B0.at_
    refine q _ r d u f g (s4.perm (.cons _ ?_))
    exact (List.reverse_perm [(g, HO.dK (md S.order b.mg)), (f, HO.lst (b.fl.map V.bl)), (u, HO.dK (bd S.order b.und)), (d, HO.dK (bd S.order b.dis)), (r, HO.dK (bd S.order b.rung))]).append_right _
abbrev N_Board_copied_board : List Str := ["self", "board"]
theorem sc_Board_copied_board : FnScope N_Board_copied_board ["self"] (C8.fnScope s_Board_copied_board) := C8.fnScope_by (by decide +kernel)
theorem ok_Board_copied_board {fd : FuncData} (T : Txt K mg) (F : FunD K "copied_board" "Board.copied_board" (C8.fnArgs s_Board_copied_board) (C8.fnBody s_Board_copied_board) (C8.fnScope s_Board_copied_board) [] [] (He.ma K (aC "Board" K) "copied_board") fd) (c_Board : C8.Mak P w K mg base 3 "Board" (aC "Board" K) (sp_Board_init K) []) (c_take_over : C8.Met P w K mg base 1 (aC "Board" K) "take_over" (sp_Board_take_over K) []) :
    C8.Met P w K mg base 5 (aC "Board" K) "copied_board" (sp_Board_copied_board K) [] := by
  refine C8.met0 T.cl_Board T.m_Board_copied_board (fun_c8 F) (F.bindsN fun _ _ _ _ _ _ us hl => match us, hl with | [_], _ => rfl) sc_Board_copied_board (fun vs H Q E h => ?_) (fun cdv A outer s H vs Q E hr h => ?_)
  · obtain ⟨_, _, _, _, _, rfl, _⟩ := h
    rfl
  · have nd := sc_Board_copied_board.nd
    have hu := hu_of hr
    obtain ⟨A, S, K0, b, M, rfl, ow, q⟩ := h
    refine ⟨_, (pss_cons (ps_set (i := 1) nd rfl (Or.inl rfl) (C8.pe_mk c_Board hr (by decide) rfl (pa_cons (pe_fld (pv 0) rfl) pa_nil)))
      (pss_cons (ps_expr (C8.pe_mt c_take_over hr (by decide) (pv 1) (pa_cons (pv 0) pa_nil)))
      (pss_one (ps_ret (pv 1))))), ?_⟩
    have hbo := ow.at_.at_
    refine ⟨_, rfl, _, _, _, _, _, rfl, hbo, T.cl_Board, T.t_Board_setup, rfl, fun bo db hbo1 hdb hne => ?_⟩
    have sp := ow.sp
    have t2 := sp.obj (o := .own bo) (o' := .ins (aC "Board" K) db []) hbo1 hdb hne
    have fr := t2.fr bo (by simp [adrs])
    refine ⟨bo, db, A.su, S, K0, _, rfl, t2, ow.fb.su, ow.fb.ok, fun K1 H1 A1 g1 eb es ob => ⟨rfl, ?_⟩⟩
    subst eb
    have sp1 := ob.sp.tail.tail.tail.tail.tail
    have hb1 := ob.fb.at_
    have sp2 := sp1.loose hb1
    have gd := Same.del g1 fr
    have hA := BoardAt.up gd ow.fb
    have hB1 := sp1.ext _ _ hb1
    refine ⟨_, rfl, A1.bo, A1.db, _, rfl, hB1, rfl, _, rfl, A1.bo, A1.db, A1.su, A1.r, A1.d, A1.u, A1.fl, A1.mg, A, S, del K1 A1.bo, b, M, rfl, hA, ow.fl, sp2, fun H2 r d u f g sp3 => ?_⟩
    have sp4 := sp3.freeze
    have g4 := sp3.new0
    have at4 : upd (del K1 A1.bo) A1.bo (boI K A1.db A1.su r d u f g) A1.bo = some (boI K A1.db A1.su r d u f g) := upd_same
    rw [es] at sp4 g4 at4
    refine ⟨_, rfl, q _ H2 ⟨A.su, A1.bo, A1.db, r, d, u, f, g⟩ (Same.tr gd g4) rfl ⟨at4, SetupAt.up (Same.tr gd g4) ow.fb.su, ow.fb.ok⟩ ⟨BoardAt.up g4 hA, ow.fl, ?_⟩⟩
    exact sp4.perm (List.perm_append_comm_assoc (BL A S b) (BL ⟨A.su, A1.bo, A1.db, r, d, u, f, g⟩ S b) M)
abbrev N_WorkQueue_copy_rows : List Str := ["self", "other"]
theorem sc_WorkQueue_copy_rows : FnScope N_WorkQueue_copy_rows ["self", "other"] (C8.fnScope s_WorkQueue_copy_rows) := C8.fnScope_by (by decide +kernel)
theorem ok_WorkQueue_copy_rows {fd : FuncData} (T : Txt K mg) (F : FunD K "copy_rows" "WorkQueue.copy_rows" (C8.fnArgs s_WorkQueue_copy_rows) (C8.fnBody s_WorkQueue_copy_rows) (C8.fnScope s_WorkQueue_copy_rows) [] [] (He.ma K (aC "WorkQueue" K) "copy_rows") fd) (c_rows : C8.Met P w K mg base 1 (aC "WorkQueue" K) "rows" (sp_WorkQueue_rows K) []) :
    C8.Met P w K mg base 2 (aC "WorkQueue" K) "copy_rows" (sp_WorkQueue_copy_rows K) [] := by
  refine C8.met0 T.cl_WorkQueue T.m_WorkQueue_copy_rows (fun_c8 F) (F.bindsN fun _ _ _ _ _ _ us hl => match us, hl with | [_, _], _ => rfl) sc_WorkQueue_copy_rows (fun vs H Q E h => ?_) (fun cdv A outer s H vs Q E hr h => ?_)
  · obtain ⟨_, _, _, _, _, _, _, _, _, _, _, rfl, _⟩ := h
    rfl
  · have nd := sc_WorkQueue_copy_rows.nd
    have hu := hu_of hr
    obtain ⟨x, dx, rk, ln, ro0, jo, ro, ws, rv, K0, M, rfl, J, hl, hm, sp, q⟩ := h
    refine ⟨_, (pss_one (ps_fld (pv 0) (C8.pe_mt0 c_rows hr (by decide) (pv 1)) rfl)), ?_⟩
    obtain ⟨dj, _, _, j1, _, _⟩ := (JobsAt.up sp.ext J).ex
    refine ⟨_, rfl, jo, dj, _, rfl, j1, rfl, jo, ro, ws, rv, rfl, JobsAt.up sp.ext J, sp.at_ (List.mem_cons_of_mem _ hm), hl, fun p H1 g1 hp hp1 => ?_⟩
    have t1 := (sp.own' g1 hp hp1).swap
    refine ⟨_, rfl, _, _, _, _, rfl, t1.c0, T.cl_WorkQueue, T.t_WorkQueue_rows, (by simp), ?_⟩
    exact q _ p (t1.put0 (o' := jqI K dx rk ln p))
abbrev N_Processor_copied_onto : List Str := ["self", "board", "processor"]
theorem sc_Processor_copied_onto : FnScope N_Processor_copied_onto ["self", "board"] (C8.fnScope s_Processor_copied_onto) := C8.fnScope_by (by decide +kernel)
theorem ok_Processor_copied_onto {fd : FuncData} (T : Txt K mg) (F : FunD K "copied_onto" "Processor.copied_onto" (C8.fnArgs s_Processor_copied_onto) (C8.fnBody s_Processor_copied_onto) (C8.fnScope s_Processor_copied_onto) [] [] (He.ma K (aC "Processor" K) "copied_onto") fd) (c_Processor : C8.Mak P w K mg base 4 "Processor" (aC "Processor" K) (sp_Processor_init K) []) (c_copy_rows : C8.Met P w K mg base 2 (aC "WorkQueue" K) "copy_rows" (sp_WorkQueue_copy_rows K) []) :
    C8.Met P w K mg base 6 (aC "Processor" K) "copied_onto" (sp_Processor_copied_onto K) [] := by
  refine C8.met0 T.cl_Processor T.m_Processor_copied_onto (fun_c8 F) (F.bindsN fun _ _ _ _ _ _ us hl => match us, hl with | [_, _], _ => rfl) sc_Processor_copied_onto (fun vs H Q E h => ?_) (fun cdv A outer s H vs Q E hr h => ?_)
  · obtain ⟨_, _, _, _, _, _, _, _, _, rfl, _⟩ := h
    rfl
  · have nd := sc_Processor_copied_onto.nd
    have hu := hu_of hr
    obtain ⟨A, P, S, K0, b, p, M, B, b', rfl, eB, hB, hfl, ow, hl, hr1, q⟩ := h
    refine ⟨_, (pss_cons (ps_set (i := 2) nd rfl (Or.inl rfl) (C8.pe_mk c_Processor hr (by decide) rfl (pa_cons (pe_fld (pv 0) rfl) (pa_cons (pv 1) pa_nil))))
      (pss_cons (ps_fld (pv 2) (pe_fld (pv 0) rfl) rfl)
      (pss_cons (ps_fld (pv 2) (pe_callTy call_list_of (by rfl) T.n_list (by decide +kernel) (pa_cons (pe_fld (pv 0) rfl) pa_nil)) rfl)
      (pss_cons (ps_expr (C8.pe_mt c_copy_rows hr (by decide) (pe_fld (pv 2) rfl) (pa_cons (pe_fld (pv 0) rfl) pa_nil)))
      (pss_cons (ps_fld (pv 2) (pe_callTy call_list_of (by rfl) T.n_list (by decide +kernel) (pa_cons (pe_fld (pv 0) rfl) pa_nil)) rfl)
      (pss_one (ps_ret (pv 2)))))))), ?_⟩
    obtain ⟨sv, rv, h1, h2, sp⟩ := ow.ex
    rw [lay_app, layB_app] at sp
    have sp := sp.perm (List.perm_append_comm_assoc (BL B S b') (BPl K A P S b p sv rv) M)
    have mA : (P.pr, prI K A P p.bar) ∈ BL B S b' ++ (BPl K A P S b p sv rv ++ M) := by simp [BPl, layB, layP]
    have mS : (P.st, HO.lst sv) ∈ BL B S b' ++ (BPl K A P S b p sv rv ++ M) := by simp [BPl, layB, layP]
    have mR : (P.ro, HO.lst rv) ∈ BL B S b' ++ (BPl K A P S b p sv rv ++ M) := by simp [BPl, layB, layP]
    have mC : (P.co, HO.lst [.int p.c0, .int p.c1, .int p.c2, .int p.c3]) ∈ BL B S b' ++ (BPl K A P S b p sv rv ++ M) := by simp [BPl, layB, layP]
    have hA := sp.at_ mA
    refine ⟨_, rfl, _, _, _, _, _, rfl, hA, T.cl_Processor, T.t_Processor_setup, rfl, _, rfl, fun pr dp hpr hdp hne => ?_⟩
    have t1 := sp.obj (o := .own pr) (o' := .ins (aC "Processor" K) dp []) hpr hdp hne
    refine ⟨pr, dp, B, S, K0, b', BPl K A P S b p sv rv ++ M, by rw [eB]; rfl, hB, hfl, t1, fun K1 H1 P1 g1 ep ej ow1 => ⟨rfl, ?_⟩⟩
    subst ep
    have fj1 := ow1.fj
    obtain ⟨sv1, rv1, k1, k2, sp1⟩ := ow1.ex
    cases k1
    cases k2
    rw [layB_app, layP_app] at sp1
    have sp2 := sp1.perm (List.perm_append_comm_assoc (P4 K B P1 pr0 [] []) (BL B S b') _)
    have sp3 := sp2.perm (M := (P1.st, .lst []) :: (P1.ro, .lst []) :: (P1.co, .lst [.int 0, .int 0, .int 0, .int 0]) :: (P1.pr, prI K B P1 0) :: (BL B S b' ++ (BPl K A P S b p sv rv ++ M))) (List.perm_middle (l₁ := [(P1.st, HO.lst []), (P1.ro, .lst []), (P1.co, .lst [.int 0, .int 0, .int 0, .int 0])]))
    have sp4 := sp3.tail.tail.tail
    clear sp1 sp2 sp3 ow1
    obtain ⟨dj, rk, ln, j1, j2, j3⟩ := fj1.ex
    have gd := Same.del g1 ej
    have sp5 := (sp4.loose j1).swap
    revert sp5
    generalize hR : BL B S b' ++ (BPl K A P S b p sv rv ++ M) = R at *
    intro sp5
    have hA5 := sp5.at_ (List.mem_cons_of_mem _ (List.mem_cons_of_mem _ mA))
    refine ⟨_, rfl, _, _, _, _, _, rfl, hA5, T.cl_Processor, T.t_Processor_bar, rfl, _, rfl, _, _, _, _, rfl, sp5.c0, T.cl_Processor, T.t_Processor_bar, (by simp), ?_⟩
    have sp6 := sp5.put0 (o' := prI K B P1 p.bar)
    have hA6 := sp6.at_ (List.mem_cons_of_mem _ (List.mem_cons_of_mem _ mA))
    refine ⟨_, rfl, _, _, _, _, _, rfl, hA6, T.cl_Processor, T.t_Processor_stack, rfl, _, _, rfl, .inl (l_of (sp6.at_ (List.mem_cons_of_mem _ (List.mem_cons_of_mem _ mS)))), fun st hst => ?_⟩
    have sp7 := (sp6.own (o := .lst sv) hst).swap
    refine ⟨_, rfl, _, _, _, _, rfl, sp7.c0, T.cl_Processor, T.t_Processor_stack, (by simp), ?_⟩
    have sp8 := sp7.put0 (o' := prI K B { P1 with st := st } p.bar)
    have mem3 : ∀ {e : Addr × HO} {a b c : Addr × HO}, e ∈ R → e ∈ a :: b :: c :: R := fun m => List.mem_cons_of_mem _ (List.mem_cons_of_mem _ (List.mem_cons_of_mem _ m))
    have hA8 := sp8.at_ (mem3 mA)
    have hJ8 := sp8.c2
    have sp9 := sp8.perm (M := (P1.jo, jqI K dj rk ln P1.ro) :: (P1.pr, prI K B { P1 with st := st } p.bar) :: (st, .lst sv) :: R) (List.perm_middle (l₁ := [(P1.pr, prI K B { P1 with st := st } p.bar), (st, HO.lst sv)])).symm
    refine ⟨_, rfl, _, _, _, _, _, rfl, sp8.c0, T.cl_Processor, T.t_Processor_jobs, rfl, P1.jo, dj, _, rfl, hJ8, rfl, _, rfl, _, _, _, _, _, rfl, hA8, T.cl_Processor, T.t_Processor_jobs, rfl, ?_⟩
    refine ⟨P1.jo, dj, rk, ln, P1.ro, P.jo, P.ro, S.ws, rv, del K1 P1.jo, _, rfl, JobsAt.up gd ow.fj, by have := h2.length; omega, List.mem_cons_of_mem _ (List.mem_cons_of_mem _ mR), sp9, fun H2 ro sp10 => ?_⟩
    have hA10 := sp10.at_ (List.mem_cons_of_mem _ (mem3 mA))
    refine ⟨_, rfl, _, _, _, _, _, rfl, hA10, T.cl_Processor, T.t_Processor_counts, rfl, _, _, rfl, .inl (l_of (sp10.at_ (List.mem_cons_of_mem _ (mem3 mC)))), fun co hco => ?_⟩
    have sp11 := sp10.own (o := .lst [.int p.c0, .int p.c1, .int p.c2, .int p.c3]) hco
    have sp12 := sp11.perm (M := (P1.pr, prI K B { P1 with st := st } p.bar) :: (P1.jo, jqI K dj rk ln ro) :: (co, .lst [.int p.c0, .int p.c1, .int p.c2, .int p.c3]) :: (ro, .lst rv) :: (st, .lst sv) :: R) (by
      have z1 := List.perm_middle (a := (P1.pr, prI K B { P1 with st := st } p.bar)) (l₁ := [(co, HO.lst [.int p.c0, .int p.c1, .int p.c2, .int p.c3]), (P1.jo, jqI K dj rk ln ro), (ro, .lst rv)]) (l₂ := (st, .lst sv) :: R)
      exact ((List.Perm.swap _ _ _).cons _).trans z1.symm)
    refine ⟨_, rfl, _, _, _, _, rfl, sp12.c0, T.cl_Processor, T.t_Processor_counts, (by simp), ?_⟩
    have sp13 := (sp12.put0 (o' := prI K B { P1 with st := st, ro := ro, co := co } p.bar)).swap
    have sp14 := sp13.freeze
    have g14 := sp13.new0
    have gA := Same.tr gd g14
    refine ⟨_, rfl, q _ _ { P1 with st := st, ro := ro, co := co } sv rv gA ⟨⟨dj, rk, ln, upd_same, ?_, ?_⟩, fj1.ok⟩ (h1.mono fun _ _ z => CallAt.up gA z) (h2.mono fun _ _ z => RowAt.up gA z) (ow.mk2 gA ow.fl ⟨sv, rv, h1.mono fun _ _ z => CallAt.up gA z, h2.mono fun _ _ z => RowAt.up gA z, ?_⟩)⟩
    · exact g14 _ _ (del_at j2 j1 (by intro e; cases e))
    · exact g14 _ _ (del_at j3 j1 (by intro e; cases e))
    · subst hR
      rw [lay_app, layB_app, layP_app]
      refine Sep.perm (L := P4 K B { P1 with st := st, ro := ro, co := co } p sv rv ++ (BL B S b' ++ (BPl K A P S b p sv rv ++ M))) (sp14.perm (.cons _ ?_)) (permABC _ _ _ _).symm
      exact (List.reverse_perm [(co, HO.lst [.int p.c0, .int p.c1, .int p.c2, .int p.c3]), (ro, .lst rv), (st, .lst sv)]).append_right _
abbrev N_Single_copied : List Str := ["self", "single", "board"]
theorem sc_Single_copied : FnScope N_Single_copied ["self"] (C8.fnScope s_Single_copied) := C8.fnScope_by (by decide +kernel)
theorem ok_Single_copied {fd : FuncData} (T : Txt K mg) (F : FunD K "copied" "Single.copied" (C8.fnArgs s_Single_copied) (C8.fnBody s_Single_copied) (C8.fnScope s_Single_copied) [] [] (He.ma K (aC "Single" K) "copied") fd) (c_Single : C8.Mak P w K mg base 7 "Single" (aC "Single" K) (sp_Single_init K) []) (c_copied_board : C8.Met P w K mg base 5 (aC "Board" K) "copied_board" (sp_Board_copied_board K) []) (c_copied_onto : C8.Met P w K mg base 6 (aC "Processor" K) "copied_onto" (sp_Processor_copied_onto K) []) :
    C8.Met P w K mg base 9 (aC "Single" K) "copied" (sp_Single_copied K) [] := by
  refine C8.met0 T.cl_Single T.m_Single_copied (fun_c8 F) (F.bindsN fun _ _ _ _ _ _ us hl => match us, hl with | [_], _ => rfl) sc_Single_copied (fun vs H Q E h => ?_) (fun cdv A outer s H vs Q E hr h => ?_)
  · obtain ⟨_, _, _, _, _, _, _, _, _, _, rfl, _⟩ := h
    rfl
  · have nd := sc_Single_copied.nd
    have hu := hu_of hr
    obtain ⟨A, P, S, K0, b, p, si, dx, now, M, rfl, ow, hl, hr1, q⟩ := h
    refine ⟨_, (pss_cons (ps_set (i := 1) nd rfl (Or.inl rfl) (C8.pe_mk c_Single hr (by decide) rfl (pa_cons (pe_fld (pv 0) rfl) pa_nil)))
      (pss_cons (ps_set (i := 2) nd rfl (Or.inl rfl) (C8.pe_mt0 c_copied_board hr (by decide) (pe_fld (pv 0) rfl)))
      (pss_cons (ps_fld (pv 1) (pv 2) rfl)
      (pss_cons (ps_fld (pv 1) (C8.pe_mt c_copied_onto hr (by decide) (pe_fld (pv 0) rfl) (pa_cons (pv 2) pa_nil)) rfl)
      (pss_cons (ps_fld (pv 1) (pe_fld (pv 0) rfl) rfl)
      (pss_one (ps_ret (pv 1)))))))), ?_⟩
    have hsi := ow.fr
    obtain ⟨sv, rv, h1, h2, sp⟩ := ow.ex
    rw [lay_app] at sp
    refine ⟨_, rfl, _, _, _, _, _, rfl, hsi, T.cl_Single, T.t_Single_setup, rfl, fun s2 d2 hs2 hd2 hne => ?_⟩
    have t1 := sp.obj (o := .own s2) (o' := .ins (aC "Single" K) d2 []) hs2 hd2 hne
    refine ⟨s2, d2, A.su, S, K0, _, rfl, t1, ow.fb.su, ow.fb.ok, fun K1 H1 A1 P1 g1 eA ow1 => ⟨rfl, ?_⟩⟩
    obtain ⟨sv1, rv1, _, _, sp1⟩ := ow1.ex
    rw [lay_app] at sp1
    have sp2 := Sep.weakR sp1
    rw [show siI K A1 P1 d2 0 = .ins (aC "Single" K) d2 [("_setup", .ref A.su), ("_board", .ref A1.bo), ("_processor", .ref P1.pr), ("_now", .int 0)] by unfold siI; rw [eA]] at sp2
    have o2 : Own K A P S K1 H1 b p ((si, siI K A P dx now) :: (s2, .ins (aC "Single" K) d2 [("_setup", .ref A.su), ("_board", .ref A1.bo), ("_processor", .ref P1.pr), ("_now", .int 0)]) :: M) := ow.mk2 g1 ow.fl ⟨sv, rv, h1.mono fun _ _ z => CallAt.up g1 z, h2.mono fun _ _ z => RowAt.up g1 z, by
      rw [lay_app]
      exact sp2.perm (((List.Perm.swap _ _ _).append_left _).trans List.perm_middle)⟩
    have hsi2 := o2.fr
    obtain ⟨sv2, rv2, h12, h22, sp2⟩ := o2.ex
    refine ⟨_, rfl, _, _, _, _, _, rfl, hsi2, T.cl_Single, T.t_Single_board, rfl, A.bo, A.db, _, rfl, sp2.ext _ _ o2.fb.at_, rfl, A, S, K1, b, _, rfl, ⟨o2.fb, o2.fl, sp2⟩, fun K2 H2 A2 g2 eA2 B2 ob2 => ?_⟩
    have sp3 := ob2.sp
    rw [layB_app (A := A2)] at sp3
    have o3 : Own K A P S K2 H2 b p ((s2, .ins (aC "Single" K) d2 [("_setup", .ref A.su), ("_board", .ref A1.bo), ("_processor", .ref P1.pr), ("_now", .int 0)]) :: layB A2 S b ((si, siI K A P dx now) :: M)) := o2.mk2 g2 ow.fl ⟨sv2, rv2, h12.mono fun _ _ z => CallAt.up g2 z, h22.mono fun _ _ z => RowAt.up g2 z, by
      rw [lay_app, layB_app (A := A2)]
      have z1 : Sep K2 H2 (BPl K A P S b p sv2 rv2 ++ (BL A2 S b ++ ((si, siI K A P dx now) :: (s2, .ins (aC "Single" K) d2 [("_setup", .ref A.su), ("_board", .ref A1.bo), ("_processor", .ref P1.pr), ("_now", .int 0)]) :: M))) := sp3.perm ((List.perm_append_comm_assoc (P4 K A P p sv2 rv2) (BL A2 S b) _).append_left (BL A S b))
      refine z1.perm (List.Perm.append_left _ ?_)
      exact (List.perm_middle (l₁ := (s2, HO.ins (aC "Single" K) d2 [("_setup", .ref A.su), ("_board", .ref A1.bo), ("_processor", .ref P1.pr), ("_now", .int 0)]) :: BL A2 S b)).trans ((List.Perm.cons _ (List.perm_middle (l₁ := BL A2 S b)).symm).trans (List.perm_middle (l₁ := BL A2 S b)).symm)⟩
    refine ⟨_, rfl, _, rfl, _, _, _, _, rfl, o3.fr, T.cl_Single, T.t_Single_board, (by simp), ?_⟩
    have o4 := o3.putM (y := .ins (aC "Single" K) d2 [("_setup", .ref A.su), ("_board", .ref A2.bo), ("_processor", .ref P1.pr), ("_now", .int 0)])
    have o5 := o4.permM (M' := layB A2 S b ((s2, .ins (aC "Single" K) d2 [("_setup", .ref A.su), ("_board", .ref A2.bo), ("_processor", .ref P1.pr), ("_now", .int 0)]) :: (si, siI K A P dx now) :: M)) (List.perm_middle (l₁ := BL A2 S b))
    have o6 := o4.permM (M' := (si, siI K A P dx now) :: (s2, .ins (aC "Single" K) d2 [("_setup", .ref A.su), ("_board", .ref A2.bo), ("_processor", .ref P1.pr), ("_now", .int 0)]) :: layB A2 S b M) (((List.Perm.swap _ _ _)).trans (List.Perm.cons _ (List.perm_middle (l₁ := BL A2 S b)).symm))
    refine ⟨_, rfl, _, _, _, _, _, rfl, o6.fr, T.cl_Single, T.t_Single_processor, rfl, P.pr, P.dp, _, rfl, o5.prc, rfl, _, rfl, A, P, S, K2, b, p, _, A2, b, rfl, eA2, B2, ow.fl, o5, hl, hr1, fun K3 H3 P3 sv3 rv3 g3 j3 c3 r3 o7 => ?_⟩
    rw [layB_app, layP_app] at o7
    have o8 := o7.permM (M' := (s2, .ins (aC "Single" K) d2 [("_setup", .ref A.su), ("_board", .ref A2.bo), ("_processor", .ref P1.pr), ("_now", .int 0)]) :: (si, siI K A P dx now) :: (BL A2 S b ++ (P4 K A2 P3 p sv3 rv3 ++ M))) (by
      have z := List.perm_append_comm_assoc (BL A2 S b ++ P4 K A2 P3 p sv3 rv3) [(s2, HO.ins (aC "Single" K) d2 [("_setup", .ref A.su), ("_board", .ref A2.bo), ("_processor", .ref P1.pr), ("_now", .int 0)]), (si, siI K A P dx now)] M
      rw [List.append_assoc, List.append_assoc] at z
      exact z.symm)
    refine ⟨_, rfl, _, _, _, _, rfl, o8.fr, T.cl_Single, T.t_Single_processor, (by simp), ?_⟩
    have o9 := o8.putM (y := .ins (aC "Single" K) d2 [("_setup", .ref A.su), ("_board", .ref A2.bo), ("_processor", .ref P3.pr), ("_now", .int 0)])
    have hsi9 := o9.swapM.fr
    refine ⟨_, rfl, _, _, _, _, _, rfl, hsi9, T.cl_Single, T.t_Single_now, rfl, _, rfl, _, _, _, _, rfl, o9.fr, T.cl_Single, T.t_Single_now, (by simp), ?_⟩
    have eS : siI K A2 P3 d2 now = .ins (aC "Single" K) d2 [("_setup", .ref A.su), ("_board", .ref A2.bo), ("_processor", .ref P3.pr), ("_now", .int now)] := by unfold siI; rw [eA2]
    have o10 := o9.putM (y := .ins (aC "Single" K) d2 [("_setup", .ref A.su), ("_board", .ref A2.bo), ("_processor", .ref P3.pr), ("_now", .int now)])
    refine ⟨_, rfl, q K3 _ A2 P3 s2 d2 (BPl K A2 P3 S b p sv3 rv3 ++ [(s2, siI K A2 P3 d2 now)]) (Same.tr g1 (Same.tr g2 g3)) eA2 ⟨BoardAt.up g3 B2, j3, ow.fl, sv3, rv3, c3, r3, rfl⟩ ?_⟩
    rw [eS]
    refine o10.permM ?_
    have z := List.perm_middle (a := (s2, HO.ins (aC "Single" K) d2 [("_setup", .ref A.su), ("_board", .ref A2.bo), ("_processor", .ref P3.pr), ("_now", .int now)])) (l₁ := BPl K A2 P3 S b p sv3 rv3) (l₂ := M)
    rw [List.append_assoc]
    exact (List.Perm.cons _ z).trans (List.Perm.swap _ _ _)
theorem okP_Single_eq {fd : FuncData} (T : Txt K mg) (F : FunD K "__eq__" "Single.__eq__" (C8.fnArgs s_Single_eq) (C8.fnBody s_Single_eq) (C8.fnScope s_Single_eq) [] [] (He.ma K (aC "Single" K) "__eq__") fd) (c_eqS : C8.Met P w K mg base 1 (aC "Setup" K) "__eq__" (sp_Setup_eq K) []) (c_told : C8.Met P w K mg base 7 (aC "Single" K) "_told" (sp_Single_told K) []) :
    C8.Met P w K mg base 8 (aC "Single" K) "__eq__" (sp_Single_eqO K) [] := by
  refine C8.met0 T.cl_Single T.m_Single_eq (fun_c8 F) (F.bindsN fun _ _ _ _ _ _ us hl => match us, hl with | [_, _], _ => rfl) sc_Single_eq (fun vs H Q E h => ?_) (fun cdv A outer s H vs Q E hr h => ?_)
  · obtain ⟨_, _, _, _, _, _, _, _, _, _, _, _, rfl, _⟩ := h
    rfl
  · have nd := sc_Single_eq.nd
    have hu := hu_of hr
    obtain ⟨A, P, S, K0, b, p, si, dx, now, M, y, t, rfl, ow, ty, hk, q⟩ := h
    refine ⟨_, (pss_one (ps_ret (pe_and (pe_callB call_isi (by rfl) T.n_isinstance (by decide +kernel) (pa_cons (pv 1) (pa_cons (pe_glob (v := .ref (aC "Single" K)) rfl T.g_Single rfl) pa_nil))) (pe_and (pe_cmpR (C_eq c_eqS hr (by decide)) (pe_fld (pv 0) rfl) (pe_fld (pv 1) rfl) (nomark _)) (pe_one (pe_cmpR (op_eqD (hu64_of hr)) (C8.pe_mt0 c_told hr (by decide) (pv 0)) (C8.pe_mt0 c_told hr (by decide) (pv 1)) (nomark _))))))), ?_⟩
    exact ⟨_, rfl, _, _, t, _, false, rfl, .own _, ty, hk, _, rfl, iteF q⟩
theorem okP_Processor_work_rows {fd : FuncData} (T : Txt K mg) (F : FunD K "work_rows" "Processor.work_rows" (C8.fnArgs s_Processor_work_rows) (C8.fnBody s_Processor_work_rows) (C8.fnScope s_Processor_work_rows) [] [] (He.ma K (aC "Processor" K) "work_rows") fd) (c_jrows : C8.Met P w K mg base 1 (aC "WorkQueue" K) "rows" (sp_WorkQueue_rows K) []) :
    C8.Met P w K mg base 2 (aC "Processor" K) "work_rows" (sp_Processor_work_rowsF K) [] := by
  refine C8.met0 T.cl_Processor T.m_Processor_work_rows (fun_c8 F) (F.bindsN fun _ _ _ _ _ _ us hl => match us, hl with | [_], _ => rfl) sc_Processor_work_rows (fun vs H Q E h => ?_) (fun cdv A outer s H vs Q E hr h => ?_)
  · obtain ⟨_, _, _, _, _, _, _, rfl, _⟩ := h
    rfl
  · have nd := sc_Processor_work_rows.nd
    have hu := hu_of hr
    obtain ⟨A, P, S, K0, b, p, M, rfl, ow, hl, q⟩ := h
    refine ⟨_, (pss_one (ps_ret (C8.pe_mt0 c_jrows hr (by decide) (pe_fld (pv 0) rfl)))), ?_⟩
    obtain ⟨sv, rv, h1, h2, sp⟩ := ow.ex
    have hpr := sp.c5
    have B := BoardAt.up sp.ext ow.fb
    obtain ⟨dx2, _, _, _, _, _, h3, _⟩ := B.su.ex
    obtain ⟨dj, rk, ln, j1, _⟩ := (JobsAt.up sp.ext ow.fj).ex
    refine ⟨_, rfl, _, _, _, _, _, rfl, hpr, T.cl_Processor, T.t_Processor_jobs, rfl, P.jo, dj, _, rfl, j1, rfl, P.jo, P.ro, S.ws, rv, rfl, JobsAt.up sp.ext ow.fj, sp.c7, by have := h2.length; omega, fun a H1 g hp hp1 => ?_⟩
    exact q K0 _ a rv (Same.refl _) (ow.ownM' g hp hp1) h2
theorem okP_Processor_call_rows {fd : FuncData} (T : Txt K mg) (F : FunD K "call_rows" "Processor.call_rows" (C8.fnArgs s_Processor_call_rows) (C8.fnBody s_Processor_call_rows) (C8.fnScope s_Processor_call_rows) [] [] (He.ma K (aC "Processor" K) "call_rows") fd) :
    C8.Met P w K mg base 1 (aC "Processor" K) "call_rows" (sp_Processor_call_rowsF K) [] := by
  refine C8.met0 T.cl_Processor T.m_Processor_call_rows (fun_c8 F) (F.bindsN fun _ _ _ _ _ _ us hl => match us, hl with | [_], _ => rfl) sc_Processor_call_rows (fun vs H Q E h => ?_) (fun cdv A outer s H vs Q E hr h => ?_)
  · obtain ⟨_, _, _, _, _, _, _, rfl, _⟩ := h
    rfl
  · have nd := sc_Processor_call_rows.nd
    have hu := hu_of hr
    obtain ⟨A, P, S, K0, b, p, M, rfl, ow, hl, q⟩ := h
    refine ⟨_, (pss_one (ps_ret (pe_lc (own := [("call", 1)]) rfl nd (pi_list (pe_fld (pv 0) rfl)) (blkOk_by (own := [("call", 1)]) (N := N_Processor_call_rows) (sc := (C8.fnScope s_Processor_call_rows)) (by decide +kernel)) (fun _ _ _ _ _ => (pg_name (i := 1) nd rfl (Or.inl rfl))) (fun _ _ _ _ _ => pts_nil) (fun _ _ _ _ _ => (pe_slice (sl_tup : SlR _ (rSlT K)) (pv 1) po_none (po_some pe_int)))))), ?_⟩
    obtain ⟨sv, rv, h1, h2, sp⟩ := ow.ex
    have hpr := sp.c5
    have B := BoardAt.up sp.ext ow.fb
    obtain ⟨dx2, _, _, _, _, _, h3, _⟩ := B.su.ex
    have hlen := h1.length
    refine ⟨_, rfl, _, _, _, _, _, rfl, hpr, T.cl_Processor, T.t_Processor_stack, rfl, _, rfl, ⟨_, l_of sp.c6⟩, fun D hD => ?_⟩
    refine lc_it (walk_list (xs := sv)) (fun i H' => ∃ K' acc, Same K0 K' ∧ Sep K' H' ((D, .lst acc) :: layB A S b (layP K A P p sv rv M)) ∧ Paired (C3At K K') acc (p.stack.take i)) ⟨K0, [], Same.refl _, sp.own hD, .nil⟩ ?_ ?_ ?_
    · rintro i H' _ ⟨K', acc, g, sp', _⟩
      exact l_of sp'.c7
    · rintro i v H1 H2 hi ⟨K', acc, g, sp', pr⟩ ⟨rfl, e2⟩
      obtain ⟨c, hc, t, rfl, ht⟩ := pget h1 e2
      have hlc := pr.length
      refine ⟨rfl, ⟨_, rfl, _, rfl, _, _, rfl, Same.tup (Same.tr g sp'.ext) ht, by simp [HT.sIx], fun a hp => ?_⟩⟩
      rw [cut3]
      have z := sp'.keep (o := .tup [.str c.line.name, .int (c.step : Nat), .int c.ticks]) hp
      have gz := sp'.newk (o := .tup [.str c.line.name, .int (c.step : Nat), .int c.ticks]) hp
      refine ⟨_, z.c0, sml (m := 4000) (by simp at hlc; omega) (by decide), _, _, Same.tr g gz, z.put0, ?_⟩
      rw [take_snoc hc]
      exact Paired.snoc (pr.mono fun _ _ z => C3At.up gz z) ⟨a, rfl, t_of upd_same⟩
    rintro H1 ⟨K', acc, g, sp', pr⟩
    rw [List.take_of_length_le (by omega)] at pr
    exact q _ _ D acc g (ow.mk2 g ow.fl ⟨sv, rv, h1.mono fun _ _ z => CallAt.up g z, h2.mono fun _ _ z => RowAt.up g z, sp'.dn9⟩) pr
theorem okP_Single_waiting {fd : FuncData} (T : Txt K mg) (F : FunD K "waiting" "Single.waiting" (C8.fnArgs s_Single_waiting) (C8.fnBody s_Single_waiting) (C8.fnScope s_Single_waiting) [] [] (prA "Single" "waiting" K) fd) (c_waiting_lines : C8.Met P w K mg base 6 (aC "Board" K) "waiting_lines" (sp_Board_waiting_lines K) []) :
    FnP P w K mg base 7 (prA "Single" "waiting" K) (sp_Single_waitingF K) := by
  refine fnP_mk (fun_c8 F) (F.bindsN fun _ _ _ _ _ _ us hl => match us, hl with | [_], _ => rfl) sc_Single_waiting (fun vs H Q E h => ?_) (fun cdv A outer s H vs Q E hr h => ?_)
  · obtain ⟨_, _, _, _, _, _, _, _, _, _, rfl, _⟩ := h
    rfl
  · have nd := sc_Single_waiting.nd
    have hu := hu_of hr
    obtain ⟨A, P, S, K0, b, p, si, dx, now, M, rfl, ow, q⟩ := h
    refine ⟨_, (pss_one (ps_ret (C8.pe_mt0 c_waiting_lines hr (by decide) (pe_fld (pv 0) rfl)))), ?_⟩
    have hsi := ow.fr
    obtain ⟨sv, rv, h1, h2, sp⟩ := ow.ex
    have hbo := sp.ext _ _ ow.fb.at_
    refine ⟨_, rfl, _, _, _, _, _, rfl, hsi, T.cl_Single, T.t_Single_board, rfl, A.bo, A.db, _, rfl, hbo, rfl, A, S, K0, b, _, rfl, ⟨ow.fb, ow.fl, sp⟩, fun a H1 g ha ha1 => ?_⟩
    exact q K0 _ a _ (Same.refl _) (ow.ownM' g ha ha1) (Nat.le_trans (by unfold nmsV; rw [List.length_map]; exact List.length_filter_le _ _) (linesO_len ow.fb.ok))
theorem okP_Single_masked {fd : FuncData} (T : Txt K mg) (F : FunD K "masked" "Single.masked" (C8.fnArgs s_Single_masked) (C8.fnBody s_Single_masked) (C8.fnScope s_Single_masked) [] [] (prA "Single" "masked" K) fd) (c_disabled_lines : C8.Met P w K mg base 3 (aC "Board" K) "disabled_lines" (sp_Board_disabled_lines K) []) :
    FnP P w K mg base 4 (prA "Single" "masked" K) (sp_Single_maskedF K) := by
  refine fnP_mk (fun_c8 F) (F.bindsN fun _ _ _ _ _ _ us hl => match us, hl with | [_], _ => rfl) sc_Single_masked (fun vs H Q E h => ?_) (fun cdv A outer s H vs Q E hr h => ?_)
  · obtain ⟨_, _, _, _, _, _, _, _, _, _, rfl, _⟩ := h
    rfl
  · have nd := sc_Single_masked.nd
    have hu := hu_of hr
    obtain ⟨A, P, S, K0, b, p, si, dx, now, M, rfl, ow, q⟩ := h
    refine ⟨_, (pss_one (ps_ret (C8.pe_mt0 c_disabled_lines hr (by decide) (pe_fld (pv 0) rfl)))), ?_⟩
    have hsi := ow.fr
    obtain ⟨sv, rv, h1, h2, sp⟩ := ow.ex
    have hbo := sp.ext _ _ ow.fb.at_
    refine ⟨_, rfl, _, _, _, _, _, rfl, hsi, T.cl_Single, T.t_Single_board, rfl, A.bo, A.db, _, rfl, hbo, rfl, A, S, K0, b, _, rfl, ⟨ow.fb, ow.fl, sp⟩, fun a H1 g ha ha1 => ?_⟩
    exact q K0 _ a _ (Same.refl _) (ow.ownM' g ha ha1) (Nat.le_trans (by unfold nmsV; rw [List.length_map]; exact List.length_filter_le _ _) (linesO_len ow.fb.ok))
theorem okP_Single_highs {fd : FuncData} (T : Txt K mg) (F : FunD K "highs" "Single.highs" (C8.fnArgs s_Single_highs) (C8.fnBody s_Single_highs) (C8.fnScope s_Single_highs) [] [] (prA "Single" "highs" K) fd) (c_high_lines : C8.Met P w K mg base 6 (aC "Board" K) "high_lines" (sp_Board_high_lines K) []) :
    FnP P w K mg base 7 (prA "Single" "highs" K) (sp_Single_highsF K) := by
  refine fnP_mk (fun_c8 F) (F.bindsN fun _ _ _ _ _ _ us hl => match us, hl with | [_], _ => rfl) sc_Single_highs (fun vs H Q E h => ?_) (fun cdv A outer s H vs Q E hr h => ?_)
  · obtain ⟨_, _, _, _, _, _, _, _, _, _, rfl, _⟩ := h
    rfl
  · have nd := sc_Single_highs.nd
    have hu := hu_of hr
    obtain ⟨A, P, S, K0, b, p, si, dx, now, M, rfl, ow, q⟩ := h
    refine ⟨_, (pss_one (ps_ret (C8.pe_mt0 c_high_lines hr (by decide) (pe_fld (pv 0) rfl)))), ?_⟩
    have hsi := ow.fr
    obtain ⟨sv, rv, h1, h2, sp⟩ := ow.ex
    have hbo := sp.ext _ _ ow.fb.at_
    refine ⟨_, rfl, _, _, _, _, _, rfl, hsi, T.cl_Single, T.t_Single_board, rfl, A.bo, A.db, _, rfl, hbo, rfl, A, S, K0, b, _, rfl, ⟨ow.fb, ow.fl, sp⟩, fun a H1 g ha ha1 => ?_⟩
    exact q K0 _ a _ (Same.refl _) (ow.ownM' g ha ha1) (Nat.le_trans (by unfold nmsV; rw [List.length_map]; exact List.length_filter_le _ _) (linesO_len ow.fb.ok))
theorem okP_Single_flags_up {fd : FuncData} (T : Txt K mg) (F : FunD K "flags_up" "Single.flags_up" (C8.fnArgs s_Single_flags_up) (C8.fnBody s_Single_flags_up) (C8.fnScope s_Single_flags_up) [] [] (prA "Single" "flags_up" K) fd) (c_raised_flags : C8.Met P w K mg base 1 (aC "Board" K) "raised_flags" (sp_Board_raised_flags K) []) :
    FnP P w K mg base 2 (prA "Single" "flags_up" K) (sp_Single_flags_upF K) := by
  refine fnP_mk (fun_c8 F) (F.bindsN fun _ _ _ _ _ _ us hl => match us, hl with | [_], _ => rfl) sc_Single_flags_up (fun vs H Q E h => ?_) (fun cdv A outer s H vs Q E hr h => ?_)
  · obtain ⟨_, _, _, _, _, _, _, _, _, _, rfl, _⟩ := h
    rfl
  · have nd := sc_Single_flags_up.nd
    have hu := hu_of hr
    obtain ⟨A, P, S, K0, b, p, si, dx, now, M, rfl, ow, q⟩ := h
    refine ⟨_, (pss_one (ps_ret (C8.pe_mt0 c_raised_flags hr (by decide) (pe_fld (pv 0) rfl)))), ?_⟩
    have hsi := ow.fr
    obtain ⟨sv, rv, h1, h2, sp⟩ := ow.ex
    have hbo := sp.ext _ _ ow.fb.at_
    refine ⟨_, rfl, _, _, _, _, _, rfl, hsi, T.cl_Single, T.t_Single_board, rfl, A.bo, A.db, _, rfl, hbo, rfl, A, S, K0, b, _, rfl, ⟨ow.fb, ow.fl, sp⟩, fun a H1 g ha ha1 => ?_⟩
    exact q K0 _ a _ (Same.refl _) (ow.ownM' g ha ha1) (by unfold upF; rw [List.length_map, List.length_map]; exact Nat.le_trans (List.length_filter_le _ _) (by simp))
theorem okP_Single_calls {fd : FuncData} (T : Txt K mg) (F : FunD K "calls" "Single.calls" (C8.fnArgs s_Single_calls) (C8.fnBody s_Single_calls) (C8.fnScope s_Single_calls) [] [] (prA "Single" "calls" K) fd) (c_call_rows : C8.Met P w K mg base 1 (aC "Processor" K) "call_rows" (sp_Processor_call_rowsF K) []) :
    FnP P w K mg base 2 (prA "Single" "calls" K) (sp_Single_callsF K) := by
  refine fnP_mk (fun_c8 F) (F.bindsN fun _ _ _ _ _ _ us hl => match us, hl with | [_], _ => rfl) sc_Single_calls (fun vs H Q E h => ?_) (fun cdv A outer s H vs Q E hr h => ?_)
  · obtain ⟨_, _, _, _, _, _, _, _, _, _, rfl, _⟩ := h
    rfl
  · have nd := sc_Single_calls.nd
    have hu := hu_of hr
    obtain ⟨A, P, S, K0, b, p, si, dx, now, M, rfl, ow, hl, q⟩ := h
    refine ⟨_, (pss_one (ps_ret (C8.pe_mt0 c_call_rows hr (by decide) (pe_fld (pv 0) rfl)))), ?_⟩
    have hsi := ow.fr
    exact ⟨_, rfl, _, _, _, _, _, rfl, hsi, T.cl_Single, T.t_Single_processor, rfl, P.pr, P.dp, _, rfl, ow.prc, rfl, A, P, S, K0, b, p, _, rfl, ow, hl, fun K1 H1 a ev g o h => q K1 H1 a ev g o h.length⟩
theorem okP_Single_queue {fd : FuncData} (T : Txt K mg) (F : FunD K "queue" "Single.queue" (C8.fnArgs s_Single_queue) (C8.fnBody s_Single_queue) (C8.fnScope s_Single_queue) [] [] (prA "Single" "queue" K) fd) (c_work_rows : C8.Met P w K mg base 2 (aC "Processor" K) "work_rows" (sp_Processor_work_rowsF K) []) :
    FnP P w K mg base 3 (prA "Single" "queue" K) (sp_Single_queueF K) := by
  refine fnP_mk (fun_c8 F) (F.bindsN fun _ _ _ _ _ _ us hl => match us, hl with | [_], _ => rfl) sc_Single_queue (fun vs H Q E h => ?_) (fun cdv A outer s H vs Q E hr h => ?_)
  · obtain ⟨_, _, _, _, _, _, _, _, _, _, rfl, _⟩ := h
    rfl
  · have nd := sc_Single_queue.nd
    have hu := hu_of hr
    obtain ⟨A, P, S, K0, b, p, si, dx, now, M, rfl, ow, hl, q⟩ := h
    refine ⟨_, (pss_one (ps_ret (C8.pe_mt0 c_work_rows hr (by decide) (pe_fld (pv 0) rfl)))), ?_⟩
    have hsi := ow.fr
    exact ⟨_, rfl, _, _, _, _, _, rfl, hsi, T.cl_Single, T.t_Single_processor, rfl, P.pr, P.dp, _, rfl, ow.prc, rfl, A, P, S, K0, b, p, _, rfl, ow, hl, fun K1 H1 a ev g o h => q K1 H1 a ev g o h.length⟩
end
end Cb

namespace Cb
open PySem PySem.Spec PyProof.Rows L2
theorem perm1 {α : Type} (L1 M : List α) (r : α) : (r :: (L1 ++ M)).Perm (L1 ++ (r :: M))  := List.perm_middle.symm
theorem permT {α : Type} (L1 M : List α) (r : α) : (r :: (L1 ++ M)).Perm (L1 ++ (M ++ [r])) := by
  rw [← List.append_assoc]
  exact (List.perm_append_singleton r (L1 ++ M)).symm

theorem permC {α : Type} (L1 L2 M : List α) (r : α) : (r :: (L1 ++ (L2 ++ M))).Perm (L1 ++ (L2 ++ (r :: M))) := by
  have h2 : ((L1 ++ L2) ++ r :: M).Perm (r :: ((L1 ++ L2) ++ M)) := List.perm_middle
  rw [List.append_assoc, List.append_assoc] at h2
  exact h2.symm
theorem eqSD_same {S S' : SetD} (ok : SetOk S) (e1 : S'.ls = S.ls) (e2 : S'.ws = S.ws) : eqSD S' S = true := by
  unfold eqSD lsD wsD
  rw [e1, e2]
  have e : ∀ xs, PyData.canLayAll0 xs = true → PyData.eqv (.tuple xs) (.tuple xs) = true := fun xs h => by
    rw [show PyData.eqv (.tuple xs) (.tuple xs) = PyData.eqvAll xs xs by simp [PyData.eqv]]
    exact PySem.SeqAt.eqvAll_refl xs h
  rw [e _ (lay_map fun x m => lin_lay ok m), e _ (lay_map fun x m => wrk_lay ok m)]
  rfl
theorem told_refl {S : SetD} {b : BdD} {p : PrD} {now : Int} (ok : SetOk S) (h : NmOk S p) : PyData.eqv (toldD S b p now) (toldD S b p now) = true := by
  have z := told_lay (b := b) (now := now) ok h
  unfold toldD at z ⊢
  rw [show ∀ xs, PyData.eqv (.tuple xs) (.tuple xs) = PyData.eqvAll xs xs from fun xs => by simp [PyData.eqv]]
  exact PySem.SeqAt.eqvAll_refl _ (by simpa [PyData.canLay0] using z)
theorem told_now {S S' : SetD} {b b' : BdD} {p p' : PrD} {x y : Int} (h : x ≠ y) : PyData.eqv (toldD S b p x) (toldD S' b' p' y) = false := by
  unfold toldD
  simp [PyData.eqv, PyData.eqvAll, h]
def doneD (b : BdD) : SD → PyData
  | .ring l => .str (ringR (b.rung l))
  | .quiet l => .bool (b.rung l)
  | .mask l => .bool (!b.dis l)
  | .unmask l => .bool (b.dis l)
  | .setf f => .bool (!b.fl.getD f false)
  | .clearf f => .bool (b.fl.getD f false)
  | _ => .none
theorem doneD_dq {K : PySem.W.Frag} {H : Hp} {b : BdD} {st : SD} (dd : st.deed = true) : Dq K H (doneD b st) (doneV b st) := by
  cases st <;> first | (unfold doneD doneV; rw [Dq]) | cases dd
theorem doneD_dep {b : BdD} {st : SD} : (doneD b st).depth = 0 := by cases st <;> simp [doneD, PyData.depth]
theorem doneD_w {b : BdD} {st : SD} : wOk (doneD b st) := by cases st <;> simp [doneD, wOk]
def rowD (S : SetD) (b : BdD) (p : PrD) (st : SD) : PyData := .list [doneD b st, .list ((tickA S.ws S (actB b st) p).2.2.map evD)]
def nxtD (S : SetD) (z : List PyData × BdD × PrD) (st : SD) : List PyData × BdD × PrD := (z.1 ++ [rowD S z.2.1 z.2.2 st], (tickA S.ws S (actB z.2.1 st) z.2.2).1, (tickA S.ws S (actB z.2.1 st) z.2.2).2.1)
def plD (S : SetD) (b : BdD) (p : PrD) (l : List SD) : List PyData × BdD × PrD := l.foldl (nxtD S) ([], b, p)
theorem plD_snoc {S : SetD} {b : BdD} {p : PrD} {l : List SD} {i : Nat} {st : SD} (h : l[i]? = some st) : plD S b p (l.take (i + 1)) = nxtD S (plD S b p (l.take i)) st := by
  rw [take_snoc h]
  unfold plD
  rw [List.foldl_append]
  rfl
theorem dqAll_snoc {K : PySem.W.Frag} {H : Hp} {d : PyData} {v : V} (h : Dq K H d v) : ∀ {ds : List PyData} {vs : List V}, DqAll K H ds vs → DqAll K H (ds ++ [d]) (vs ++ [v])
  | [], vs, q => by
    rw [DqAll] at q
    subst q
    simp only [List.nil_append, DqAll]
    exact ⟨v, [], rfl, h, rfl⟩
  | e :: ds, vs, q => by
    rw [DqAll] at q
    obtain ⟨x, r, rfl, hx, hr⟩ := q
    rw [List.cons_append, List.cons_append, DqAll]
    exact ⟨x, r ++ [v], rfl, hx, dqAll_snoc h hr⟩
/-- all rows that are told: flat enough, short enough -/
def RowsW (ds : List PyData) : Prop := ∀ d ∈ ds, d.depth ≤ 3 ∧ wOk d
theorem rowsW_snoc {ds : List PyData} {d : PyData} (h : RowsW ds) (hd : d.depth ≤ 3 ∧ wOk d) : RowsW (ds ++ [d]) := fun e m => by
  rcases List.mem_append.mp m with m | m
  · exact h e m
  · obtain rfl := List.mem_singleton.mp m
    exact hd
theorem dep_le : ∀ {ds : List PyData} {n : Nat}, (∀ d ∈ ds, d.depth ≤ n) → PyData.depthAll ds ≤ n
  | [], n, _ => by simp [PyData.depthAll]
  | d :: ds, n, h => by
    have h1 := h d List.mem_cons_self
    have h2 := dep_le (ds := ds) fun e m => h e (List.mem_cons_of_mem _ m)
    unfold PyData.depthAll
    omega
theorem rowD_w {S : SetD} {b : BdD} {p : PrD} {st : SD} (h : (tickA S.ws S (actB b st) p).2.2.length ≤ 10000) : (rowD S b p st).depth ≤ 3 ∧ wOk (rowD S b p st) := by
  have h1 := dep_map ev_dep (tickA S.ws S (actB b st) p).2.2
  constructor
  · unfold rowD
    simp only [PyData.depth, PyData.depthAll, doneD_dep]
    omega
  · unfold rowD
    rw [wOk]
    refine ⟨by simp, ?_⟩
    rw [wOkAll, wOkAll, wOkAll, wOk]
    exact ⟨doneD_w, ⟨by rw [List.length_map]; exact h, w_map ev_w _⟩, trivial⟩
theorem rev_other {S S' : SetD} (ok : SetOk S) (h : 1 < S.ls.length) (e : S'.ls = S.ls.reverse) : eqSD S S' = false := by
  have nd := ok.ok.nd
  unfold eqSD lsD
  rw [e]
  revert h nd
  cases S.ls with
  | nil => intro h _; simp at h
  | cons x t =>
    intro h nd
    rcases List.eq_nil_or_concat t with q | ⟨m, z, q⟩
    · subst q
      simp at h
    · rw [List.concat_eq_append] at q
      subst q
      have ne : x.name ≠ z.name := fun w => by
        rw [List.map_cons, List.nodup_cons] at nd
        exact nd.1 (by rw [w]; simp)
      rw [List.reverse_cons, List.reverse_append]
      simp [PyData.eqv, PyData.eqvAll, linD, ne]
theorem more_other {S S' : SetD} {w : WorkD} (e : S'.ws = S.ws ++ [w]) : eqSD S S' = false := by
  unfold eqSD wsD
  have z : PyData.eqv (.tuple (S.ws.map wrkD)) (.tuple (S'.ws.map wrkD)) = PyData.eqvAll (S.ws.map wrkD) (S'.ws.map wrkD) := by simp [PyData.eqv]
  rw [z, PySem.SeqAt.eqvAll_other_length (by rw [e]; simp), Bool.and_false]
theorem told0 {S S' : SetD} : toldD S bd0 pr0 0 = toldD S' bd0 pr0 0 := by
  have h1 : ∀ S : SetD, (linesO S).filter (rungL bd0) = [] := fun S => List.filter_eq_nil_iff.mpr fun l _ => by simp [rungL, bd0, no]
  have h2 : ∀ S : SetD, (linesO S).filter (disL bd0) = [] := fun S => List.filter_eq_nil_iff.mpr fun l _ => by simp [disL, bd0, no]
  unfold toldD bstD
  rw [h1, h1, h2, h2]
theorem more_ws {ws : List WorkD} (h : WsOk ws) (n : ws.map (·.name) = WK.take ws.length) : WsOk (ws ++ [⟨"zz", 1, 1⟩]) := by
  have l2 : ws.length ≤ 2 := by
    have z := congrArg List.length n
    rw [List.length_map, List.length_take] at z
    simp [WK] at z
    omega
  refine ⟨fun w m => ?_, ?_, by rw [List.length_append]; simp; omega⟩
  · rcases List.mem_append.mp m with m | m
    · exact h.ok w m
    · obtain rfl := List.mem_singleton.mp m
      exact ⟨⟨by decide +kernel, by decide +kernel⟩, by decide, by decide, by decide, by decide⟩
  · rw [List.map_append, List.nodup_append]
    refine ⟨h.nd, by simp, fun a ha b hb e => ?_⟩
    simp at hb
    subst hb e
    rw [n] at ha
    have z := List.mem_of_mem_take ha
    revert z
    decide +kernel
theorem more_all {ls : List LineD} {ws : List WorkD} {w : WorkD} (h : AllOk ls ws) : AllOk ls (ws ++ [w]) := by
  intro l m st hs
  have so := h l m st hs
  cases st with
  | later x => obtain ⟨y, hy, e⟩ := so; exact ⟨y, List.mem_append_left _ hy, e⟩
  | run n => exact so
  | setf n => exact so
  | clearf n => exact so
  | await n => exact so
  | bar n => exact so
  | quiet n => exact so
  | ring n => exact so
  | mask n => exact so
  | unmask n => exact so
theorem rev_all {ls : List LineD} {ws : List WorkD} (h : AllOk ls ws) : AllOk ls.reverse ws := by
  intro l m st hs
  have so := h l (List.mem_reverse.mp m) st hs
  cases st with
  | later x => exact so
  | run n => exact so
  | setf n => exact so
  | clearf n => exact so
  | await n => exact so
  | bar n => exact so
  | quiet n => obtain ⟨x, hx, e⟩ := so; exact ⟨x, List.mem_reverse.mpr hx, e⟩
  | ring n => obtain ⟨x, hx, e⟩ := so; exact ⟨x, List.mem_reverse.mpr hx, e⟩
  | mask n => obtain ⟨x, hx, e⟩ := so; exact ⟨x, List.mem_reverse.mpr hx, e⟩
  | unmask n => obtain ⟨x, hx, e⟩ := so; exact ⟨x, List.mem_reverse.mpr hx, e⟩
theorem rev_ls {ls : List LineD} (h : LsOk ls) : LsOk ls.reverse := ⟨fun l m => h.ok l (List.mem_reverse.mp m), by rw [List.map_reverse]; exact (List.reverse_perm _).nodup_iff.mpr h.nd, fun q => h.ne (List.reverse_eq_nil_iff.mp q), by rw [List.length_reverse]; exact h.le⟩

theorem eqSD_l {S S' S2 : SetD} (e1 : S'.ls = S.ls) (e2 : S'.ws = S.ws) : eqSD S' S2 = eqSD S S2 := by
  unfold eqSD
  rw [e1, e2]
/-- lists, the first i of them with one item more -/
def apC (C : List (Addr × List V)) (i : Nat) : List (Addr × HO) := (C.take i).map (fun e => (e.1, HO.lst (e.2 ++ [.int 5]))) ++ (C.drop i).map (fun e => (e.1, HO.lst e.2))
theorem apC_at {C : List (Addr × List V)} {i : Nat} {e : Addr × List V} (h : C[i]? = some e) : apC C i = (C.take i).map (fun e => (e.1, HO.lst (e.2 ++ [.int 5]))) ++ (e.1, HO.lst e.2) :: (C.drop (i + 1)).map (fun e => (e.1, HO.lst e.2)) := by
  unfold apC
  have hi : i < C.length := (List.getElem?_eq_some_iff.mp h).1
  have e2 : C[i] = e := (List.getElem?_eq_some_iff.mp h).2
  rw [List.drop_eq_getElem_cons hi, List.map_cons, e2]
theorem apC_next {C : List (Addr × List V)} {i : Nat} {e : Addr × List V} (h : C[i]? = some e) : apC C (i + 1) = (C.take i).map (fun e => (e.1, HO.lst (e.2 ++ [.int 5]))) ++ (e.1, HO.lst (e.2 ++ [.int 5])) :: (C.drop (i + 1)).map (fun e => (e.1, HO.lst e.2)) := by
  unfold apC
  rw [take_snoc h, List.map_append, List.append_assoc]
  rfl

theorem permW {α : Type} (L9 L8 L7 L6 L3 L1 L2 LM : List α) : (L1 ++ (L2 ++ (L9 ++ (L8 ++ (L7 ++ (L6 ++ (L3 ++ LM))))))).Perm (L9 ++ (L8 ++ (L7 ++ (L6 ++ (L3 ++ (L1 ++ (L2 ++ LM))))))) := by
  have h0 : ∀ (A X Y M : List α), (A ++ (X ++ (Y ++ M))).Perm (X ++ (Y ++ (A ++ M))) := fun A X Y M => by
    have := List.perm_append_comm_assoc A (X ++ Y) M
    simpa using this
  have e : ∀ (A M : List α), (L1 ++ (L2 ++ (A ++ M))).Perm (A ++ (L1 ++ (L2 ++ M))) := fun A M => (h0 A L1 L2 M).symm
  refine (e L9 _).trans (List.Perm.append_left _ ((e L8 _).trans (List.Perm.append_left _ ((e L7 _).trans (List.Perm.append_left _ ((e L6 _).trans (List.Perm.append_left _ (e L3 _))))))))

theorem permZ {α : Type} (L1 L2 M : List α) (r : α) : (L2 ++ (r :: (L1 ++ M))).Perm (L1 ++ (r :: (L2 ++ M))) := by
  have h1 : (L2 ++ (r :: (L1 ++ M))).Perm (r :: (L2 ++ (L1 ++ M))) := List.perm_middle
  have h2 : (L1 ++ (r :: (L2 ++ M))).Perm (r :: (L1 ++ (L2 ++ M))) := List.perm_middle
  exact h1.trans ((List.Perm.cons _ (List.perm_append_comm_assoc _ _ _)).trans h2.symm)

theorem permY {α : Type} (L M : List α) (r : α) : ([r] ++ (L ++ M)).Perm (L ++ (r :: M)) := by
  show (r :: (L ++ M)).Perm (L ++ r :: M)
  exact List.perm_middle.symm

section
variable {P : Program} {w : World} {K : PySem.W.Frag} {mg : Str → Option Value} {base : Heap}

theorem okP_law_alike {fd : FuncData} (T : Txt K mg) (F : FunD K "_law_alike" "_law_alike" (C8.fnArgs s_law_alike) (C8.fnBody s_law_alike) (C8.fnScope s_law_alike) [] [] (He.ga K "_law_alike") fd) :
    C8.Cal P w K mg base 6 "_law_alike" (sp_alk 5 K) [] := by
  exact calA_al T F (al_all T F 5)
abbrev N_law : List Str := ["_law_script", "_law_row", "_law_turn", "_law_lines", "_law_works", "_law_m", "_law_single", "_law_step_here", "_law_other", "_law_kept", "_law_deeds", "_law_k", "_law_told", "_law_deed_here", "_law_again", "_law_later", "_law_rest", "_law_shown"]
theorem sc_law : FnScope N_law ["_law_script"] (C8.fnScope s_law) := C8.fnScope_by (by decide +kernel)
theorem ok_law {fd : FuncData} (T : Txt K mg) (F : FunD K "law" "law" (C8.fnArgs s_law) (C8.fnBody s_law) (C8.fnScope s_law) [] [] (He.ga K "law") fd) (c__law_taken : C8.Cal P w K mg base 1 "_law_taken" (sp_law_taken K) []) (c__law_setup : C8.Cal P w K mg base 3 "_law_setup" (sp_law_setup K) []) (c__law_new : C8.Cal P w K mg base 1 "_law_new" (sp_law_new K) []) (c_Setup : C8.Mak P w K mg base 6 "Setup" (aC "Setup" K) (sp_Setup_init K) []) (c_Single : C8.Mak P w K mg base 7 "Single" (aC "Single" K) (sp_Single_init K) []) (c__law_deed : C8.Cal P w K mg base 2 "_law_deed" (sp_law_deed K) []) (c__law_done : C8.Cal P w K mg base 7 "_law_done" (sp_law_done K) []) (c__law_seen : C8.Cal P w K mg base 9 "_law_seen" (sp_law_seen K) []) (c_tick : C8.Met P w K mg base 11 (aC "Single" K) "tick" (sp_Single_tick K) []) (c_copied : C8.Met P w K mg base 9 (aC "Single" K) "copied" (sp_Single_copied K) []) (c_al5 : C8.Cal P w K mg base 6 "_law_alike" (sp_alk 5 K) []) (c_eqG : C8.Met P w K mg base 8 (aC "Single" K) "__eq__" (sp_Single_eq K) []) (c_eqO : C8.Met P w K mg base 8 (aC "Single" K) "__eq__" (sp_Single_eqO K) []) (c_waiting : FnP P w K mg base 7 (prA "Single" "waiting" K) (sp_Single_waitingF K)) (c_calls : FnP P w K mg base 2 (prA "Single" "calls" K) (sp_Single_callsF K)) (c_queue : FnP P w K mg base 3 (prA "Single" "queue" K) (sp_Single_queueF K)) (c_flags_up : FnP P w K mg base 2 (prA "Single" "flags_up" K) (sp_Single_flags_upF K)) (c_masked : FnP P w K mg base 4 (prA "Single" "masked" K) (sp_Single_maskedF K)) (c_highs : FnP P w K mg base 7 (prA "Single" "highs" K) (sp_Single_highsF K)) :
    FnOk P w K mg base C8.CX0 13 (He.ga K "law") fd ["_law_script"] (sp_law K) := by
  refine C8.fn0 (fun_c8 F) sc_law (fun vs H Q E h => ?_) (fun cdv A outer s H vs Q E hr h => ?_)
  · obtain ⟨_, _, rfl, _⟩ := h
    rfl
  · have nd := sc_law.nd
    have hu := hu_of hr
    obtain ⟨a, ns, rfl, hs, q⟩ := h
    obtain ⟨pp_waiting, hp_waiting⟩ := T.p_Single_waiting
    obtain ⟨pp_calls, hp_calls⟩ := T.p_Single_calls
    obtain ⟨pp_queue, hp_queue⟩ := T.p_Single_queue
    obtain ⟨pp_flags_up, hp_flags_up⟩ := T.p_Single_flags_up
    obtain ⟨pp_masked, hp_masked⟩ := T.p_Single_masked
    obtain ⟨pp_highs, hp_highs⟩ := T.p_Single_highs
    refine ⟨_, (pss_cons (ps_set (i := 1) nd rfl (Or.inr rfl) (pe_lst (pa_cons (pv 0) (pa_cons pe_int (pa_cons pe_int (pa_cons pe_int pa_nil))))))
      (pss_cons (ps_for PassesOwn.never rfl (pi_range1 (by rfl) T.n_range (pa_cons pe_int pa_nil)) (pg_name (i := 2) nd rfl (Or.inl rfl)) (pss_cons (ps_asg (C8.pe_c c__law_setup hr (by decide) rfl (pa_cons (pv 1) (pa_cons pe_int pa_nil))) (pg_tup rfl (pgs_cons (pg_name (i := 3) nd rfl (Or.inl rfl)) (pgs_cons (pg_name (i := 4) nd rfl (Or.inl rfl)) pgs_nil))))
      (pss_cons (ps_asg (pe_tup (pa_cons (C8.pe_c c__law_new hr (by decide) rfl (pa_cons (pv 3) (pa_cons (pv 4) pa_nil))) (pa_cons (C8.pe_mk c_Single hr (by decide) rfl (pa_cons (C8.pe_mk c_Setup hr (by decide) rfl (pa_cons (pv 3) (pa_cons (pv 4) pa_nil))) pa_nil)) pa_nil))) (pg_tup rfl (pgs_cons (pg_name (i := 5) nd rfl (Or.inr rfl)) (pgs_cons (pg_name (i := 6) nd rfl (Or.inr rfl)) pgs_nil))))
      (pss_cons (ps_for PassesOwn.never rfl (pi_range1 (by rfl) T.n_range (pa_cons pe_int pa_nil)) (pg_name (i := 7) nd rfl (Or.inl rfl)) (pss_cons (ps_expr (C8.pe_c c__law_done hr (by decide) rfl (pa_cons (pv 6) (pa_cons (C8.pe_c c__law_deed hr (by decide) rfl (pa_cons (pv 1) (pa_cons (pv 5) pa_nil))) pa_nil))))
      (pss_one (ps_expr (C8.pe_mt0 c_tick hr (by decide) (pv 6))))))
      (pss_cons (ps_asg (pe_tup (pa_cons (C8.pe_mt0 c_copied hr (by decide) (pv 6)) (pa_cons (C8.pe_c c__law_seen hr (by decide) rfl (pa_cons (pv 6) pa_nil)) pa_nil))) (pg_tup rfl (pgs_cons (pg_name (i := 8) nd rfl (Or.inr rfl)) (pgs_cons (pg_name (i := 9) nd rfl (Or.inl rfl)) pgs_nil))))
      (pss_cons (ps_if (PW.pt (pw_or (pt_not (pt_cmpR (C_eq c_eqG hr (by decide)) (pv 8) (pv 6) (nomark _))) (pw_or1 (pt_not (pt_val (C8.pe_c c_al5 hr (by decide) rfl (pa_cons (C8.pe_c c__law_seen hr (by decide) rfl (pa_cons (pv 8) pa_nil)) (pa_cons (pv 9) pa_nil)))))))) (pss_one (ps_ret pe_bl)) pss_nil)
      (pss_cons (ps_setLc (i := 10) (own := [("_law_k", 11)]) rfl nd rfl rfl (sw_true rfl rfl rfl (by decide +kernel)) (pi_range1 (by rfl) T.n_range (pa_cons pe_int pa_nil)) (blkOk_by (own := [("_law_k", 11)]) (N := N_law) (sc := (C8.fnScope s_law)) (by decide +kernel)) (fun _ _ _ _ _ => (pg_name (i := 11) nd rfl (Or.inl rfl))) (fun _ _ _ _ _ => pts_nil) (fun _ _ _ _ _ => (C8.pe_c c__law_deed hr (by decide) rfl (pa_cons (pv 1) (pa_cons (pv 5) pa_nil)))))
      (pss_cons (ps_setLc (i := 12) (own := [("_law_deed_here", 13)]) rfl nd rfl rfl (sw_true rfl rfl rfl (by decide +kernel)) (pi_list (pv 10)) (blkOk_by (own := [("_law_deed_here", 13)]) (N := N_law) (sc := (C8.fnScope s_law)) (by decide +kernel)) (fun _ _ _ _ _ => (pg_name (i := 13) nd rfl (Or.inl rfl))) (fun _ _ _ _ _ => pts_nil) (fun _ _ _ _ _ => (pe_lst (pa_cons (C8.pe_c c__law_done hr (by decide) rfl (pa_cons (pv 8) (pa_cons (pv 13) pa_nil))) (pa_cons (C8.pe_mt0 c_tick hr (by decide) (pv 8)) pa_nil)))))
      (pss_cons (ps_if (PW.pt (pw_or (pt_not (pt_val (C8.pe_c c_al5 hr (by decide) rfl (pa_cons (C8.pe_c c__law_seen hr (by decide) rfl (pa_cons (pv 6) pa_nil)) (pa_cons (pv 9) pa_nil))))) (pw_or (pt_cmpR (C_eq c_eqG hr (by decide)) (pv 8) (pv 6) (nomark _)) (pw_or1 (pt_cmpR (C_eq c_eqG hr (by decide)) (pv 6) (pv 8) (nomark _)))))) (pss_one (ps_ret pe_bl)) pss_nil)
      (pss_cons (ps_setLc (i := 14) (own := [("_law_deed_here", 13)]) rfl nd rfl rfl (sw_true rfl rfl rfl (by decide +kernel)) (pi_list (pv 10)) (blkOk_by (own := [("_law_deed_here", 13)]) (N := N_law) (sc := (C8.fnScope s_law)) (by decide +kernel)) (fun _ _ _ _ _ => (pg_name (i := 13) nd rfl (Or.inl rfl))) (fun _ _ _ _ _ => pts_nil) (fun _ _ _ _ _ => (pe_lst (pa_cons (C8.pe_c c__law_done hr (by decide) rfl (pa_cons (pv 6) (pa_cons (pv 13) pa_nil))) (pa_cons (C8.pe_mt0 c_tick hr (by decide) (pv 6)) pa_nil)))))
      (pss_cons (ps_if (PW.pt (pw_or (pt_not (pt_val (C8.pe_c c_al5 hr (by decide) rfl (pa_cons (pv 14) (pa_cons (pv 12) pa_nil))))) (pw_or1 (pt_not (pt_cmpR (C_eq c_eqG hr (by decide)) (pv 6) (pv 8) (nomark _)))))) (pss_one (ps_ret pe_bl)) pss_nil)
      (pss_cons (ps_set (i := 15) nd rfl (Or.inl rfl) (C8.pe_mt0 c_copied hr (by decide) (pv 6)))
      (pss_cons (ps_expr (C8.pe_mt0 c_tick hr (by decide) (pv 15)))
      (pss_cons (ps_if (PW.pt (pw_or (pt_cmpR (C_eq c_eqG hr (by decide)) (pv 15) (pv 6) (nomark _)) (pw_or (pt_cmpR (C_eqO c_eqO hr (by decide)) (pv 6) (pv 9) (nomark _)) (pw_or1 (pt_cmpR (C_eqO c_eqO hr (by decide)) (pv 6) (C8.pe_mk c_Setup hr (by decide) rfl (pa_cons (pv 3) (pa_cons (pv 4) pa_nil))) (nomark _)))))) (pss_one (ps_ret pe_bl)) pss_nil)
      (pss_cons (ps_set (i := 16) nd rfl (Or.inl rfl) (pe_ifExp (pt_cmpR op_gt (pe_callB call_len_seq (by rfl) T.n_len (by decide +kernel) (pa_cons (pv 3) pa_nil)) pe_int (nomark _)) (C8.pe_mk c_Single hr (by decide) rfl (pa_cons (C8.pe_mk c_Setup hr (by decide) rfl (pa_cons (pe_revT (pv 3)) (pa_cons (pv 4) pa_nil))) pa_nil)) (C8.pe_mk c_Single hr (by decide) rfl (pa_cons (C8.pe_mk c_Setup hr (by decide) rfl (pa_cons (pv 3) (pa_cons (pe_op op_catA (pv 4) (pe_tup (pa_cons (pe_tup (pa_cons pe_str (pa_cons pe_int (pa_cons pe_int pa_nil)))) pa_nil))) pa_nil))) pa_nil))))
      (pss_cons (ps_if (PW.pt (pw_or (pt_cmpR (C_eq c_eqG hr (by decide)) (C8.pe_mk c_Single hr (by decide) rfl (pa_cons (C8.pe_mk c_Setup hr (by decide) rfl (pa_cons (pv 3) (pa_cons (pv 4) pa_nil))) pa_nil)) (pv 16) (nomark _)) (pw_or1 (pt_not (pt_cmpR (C_eq c_eqG hr (by decide)) (C8.pe_mk c_Single hr (by decide) rfl (pa_cons (C8.pe_mk c_Setup hr (by decide) rfl (pa_cons (pv 3) (pa_cons (pv 4) pa_nil))) pa_nil)) (C8.pe_mk c_Single hr (by decide) rfl (pa_cons (C8.pe_mk c_Setup hr (by decide) rfl (pa_cons (pv 3) (pa_cons (pv 4) pa_nil))) pa_nil)) (nomark _)))))) (pss_one (ps_ret pe_bl)) pss_nil)
      (pss_cons (ps_for PassesOwn.never rfl (pi_tup (pe_tup (pa_cons (C_prop hp_waiting T.cl_Single c_waiting hr (by decide) (pv 6)) (pa_cons (C_prop hp_calls T.cl_Single c_calls hr (by decide) (pv 6)) (pa_cons (C_prop hp_queue T.cl_Single c_queue hr (by decide) (pv 6)) (pa_cons (C_prop hp_flags_up T.cl_Single c_flags_up hr (by decide) (pv 6)) (pa_cons (C_prop hp_masked T.cl_Single c_masked hr (by decide) (pv 6)) (pa_cons (C_prop hp_highs T.cl_Single c_highs hr (by decide) (pv 6)) pa_nil)))))))) (pg_name (i := 17) nd rfl (Or.inl rfl)) (pss_one (ps_expr (pe_bm PySem.F.plainAttrs_list PySem.F.slot_list_append PySem.F.type_list_append mt_append (pv 17) (pa_cons pe_int pa_nil)))))
      (pss_one (ps_if (pt_not (pt_cmpR (C_eq c_eqG hr (by decide)) (pv 6) (pv 8) (nomark _))) (pss_one (ps_ret pe_bl)) pss_nil)))))))))))))))))))
      (pss_one (ps_ret pe_bl)))), ?_⟩
    refine ⟨_, rfl, small8 (by simp), fun row hrow => ?_⟩
    have d0 : Dr H (upd H row (rowO a 0 0 0)) row a [] := ⟨0, 0, 0, by omega, ⟨by omega, by omega⟩, Sep.nil.own hrow⟩
    refine ⟨2, rfl, by omega, by omega, ?_⟩
    refine for_it (walk_range (lo := 0) (n := (2 : Int).toNat)) (fun i σ H' => ∃ y2 y3 y4 y5 y6 y7 y8 y9 y10 y11 y12 y13 y14 y15 y16 y17 K', σ = [some (.ref a), some (.ref row), y2, y3, y4, y5, y6, y7, y8, y9, y10, y11, y12, y13, y14, y15, y16, y17] ∧ Same H K' ∧ Dr K' H' row a []) ⟨_, _, _, _, _, _, _, _, _, _, _, _, _, _, _, _, H, rfl, Same.refl _, d0⟩ (fun _ _ _ _ _ => trivial) ?_ ?_
    rotate_left
    · rintro σ H' ⟨y2, y3, y4, y5, y6, y7, y8, y9, y10, y11, y12, y13, y14, y15, y16, y17, K', rfl, g, d⟩
      exact q H'
    rintro i v σ H1 H2 hi ⟨y2, y3, y4, y5, y6, y7, y8, y9, y10, y11, y12, y13, y14, y15, y16, y17, K2, rfl, g2, d2⟩ ⟨rfl, rfl⟩
    have sc2 := Same.lst g2 hs
    refine ⟨_, rfl, row, a, 4, ns, K2, [], rfl, by decide, by decide, sc2, d2, fun K4 H4 t la wa ls ws g4 d4 ht hla hwa lok wok aok hnm hwn => ?_⟩
    have sc4 := Same.lst g4 sc2
    refine ⟨_, _, rfl, Same.tup d4.ext ht, rfl, _, _, rfl, _, _, rfl, rfl, ?_⟩
    obtain ⟨i0, gg0, x0, hi0, hg0, sp0⟩ := id d4
    refine ⟨_, rfl, _, rfl, la, wa, ls, ws, K4, _, rfl, hla, hwa, lok, wok, sp0, fun K5 H5 Am g5 owm => ?_⟩
    obtain ⟨cv0, jv0, gv0, h10, h20, h30, sp5⟩ := owm.ex
    refine ⟨_, rfl, _, rfl, fun su ds hsu hds hne => ?_⟩
    have t1 := sp5.obj (o := .own su) (o' := .ins (aC "Setup" K) ds []) hsu hds hne
    refine ⟨su, ds, la, wa, ls, ws, K5, _, rfl, t1, LinesAt.up g5 hla, WorksAt.up g5 hwa, lok, wok, aok, fun K6 H6 S g6 sp6 sat eL eW ok => ⟨rfl, ?_⟩⟩
    refine fun si dx hsi hdx hne2 => ?_
    have t2 := sp6.obj (o := .own si) (o' := .ins (aC "Single" K) dx []) hsi hdx hne2
    refine ⟨si, dx, su, S, K6, _, rfl, t2, sat, ok, fun K7 H7 A P g7 eA ow => ⟨rfl, ?_⟩⟩
    obtain ⟨L1, o1, sp7⟩ := ow.one
    refine ⟨small8 (by simp), fun tp htp => ?_⟩
    refine ⟨_, _, rfl, t_of upd_same, rfl, _, _, rfl, _, _, rfl, rfl, ?_⟩
    rw [lm_app] at sp7
    have d6 : Dr K7 H7 row a (L1 ++ LMl Am md0 cv0 jv0 gv0) := ⟨i0, gg0, x0, hi0, hg0, sp7.perm (permT _ _ _)⟩
    have d7 := d6.drop (o := .tup [.ref Am.m, .ref si]) htp
    have hLM : (Am.m, HO.dK (mdK Am md0)) ∈ LMl Am md0 cv0 jv0 gv0 := List.mem_cons_self
    have tb7 := TabsAt.up (Same.tr g6 g7) owm.tb
    revert d7 hLM
    generalize LMl Am md0 cv0 jv0 gv0 = LM
    generalize upd H7 tp (.tup [.ref Am.m, .ref si]) = H8
    intro d7 hLM
    have g47 := Same.tr g5 (Same.tr g6 g7)
    have sc7 := Same.lst g47 sc4
    have hla7 := LinesAt.up g47 hla
    have hwa7 := WorksAt.up g47 hwa
    clear d6 sp7 sp6 sp5 owm t1 t2 hla hwa ow
    subst eL eW
    refine ⟨12, rfl, by omega, by omega, ?_⟩
    refine for_it (walk_range (lo := 0) (n := (12 : Int).toNat)) (fun k σ H' => ∃ z7 K' b p L1, σ = [some (.ref a), some (.ref row), some (.int (0 + ((i : Nat) : Int))), some (.ref la), some (.ref wa), some (.ref Am.m), some (.ref si), z7, y8, y9, y10, y11, y12, y13, y14, y15, y16, y17] ∧ Same K7 K' ∧ Dr K' H' row a (L1 ++ LM) ∧ OneS K K' A P S si dx b p ((k : Nat) : Int) L1 ∧ GoodA S b p) ⟨_, K7, bd0, pr0, L1, rfl, Same.refl _, d7, o1, good0⟩ (fun _ _ _ _ _ => trivial) ?_ ?_
    · rintro k v σ H13 H14 hk ⟨z7, K13, b, p, L1, rfl, g13, d13, o1, gd⟩ ⟨rfl, rfl⟩
      have sc13 := Same.lst g13 sc7
      refine ⟨_, rfl, _, rfl, _, rfl, row, a, ns, Am, S, S.ws, K13, md0, _, rfl, ok, sc13, d13, List.mem_append_right _ hLM, TabsAt.up g13 tb7, fun K15 H15 t st g15 d15 ht so dd => ?_⟩
      have o1 := o1.up g15
      obtain ⟨N9, ow9, bk9⟩ := o1.dr d15
      refine ⟨A, P, S, K15, b, p, si, dx, ((k : Nat) : Int), N9, t, st, rfl, ow9, Same.tup d15.ext ht, so, dd, fun H16 ow10 => ?_⟩
      have gd := deed_good (st := st) gd
      have hr16 := gd.rows16 ok
      have hs12 := gd.stack12 ok
      refine ⟨_, rfl, si, dx, _, rfl, ow10.fr, rfl, A, P, S, K15, actB b st, p, si, dx, ((k : Nat) : Int), N9, rfl, ow10, fun c m => gd.calls c m, gd.rows.inn, by omega, hs12, fun K19 H19 e1 ev1 g19 ow19 hev1 pev1 => ?_⟩
      obtain ⟨L1', o1, d19⟩ := bk9 K19 H19 _ _ (((k : Nat) : Int) + 1) g19 ow19
      have ek : ((k + 1 : Nat) : Int) = ((k : Nat) : Int) + 1 := by omega
      exact ⟨_, K19, _, _, L1', rfl, Same.tr g13 (Same.tr g15 g19), d19, by rw [ek]; exact o1, tickA_good ok gd⟩
    rintro σ H13 ⟨z7, K13, b, p, L1, rfl, g13, d13, o1, gd⟩
    have sc13 := Same.lst g13 sc7
    have hr16 := gd.rows16 ok
    have hs12 := gd.stack12 ok
    obtain ⟨i2, gg2, x2, hi2, hg2, sp13⟩ := d13
    have ow1 := o1.own (sp13.perm List.perm_middle)
    refine ⟨_, rfl, si, dx, _, rfl, ow1.fr, rfl, A, P, S, K13, b, p, si, dx, _, _, rfl, ow1, by omega, by omega, fun K14 H14 A2 P2 si2 dx2 L2 g14 eA2 o2 ow14 => ?_⟩
    obtain ⟨L1', o1, sp14⟩ := ow14.one
    have d14 : Dr K14 H14 row a (L1' ++ (L2 ++ LM)) := ⟨i2, gg2, x2, hi2, hg2, sp14.perm (permC _ _ _ _)⟩
    clear sp14 sp13 ow1 ow14
    obtain ⟨N3, ow3, bk3⟩ := o1.dr d14
    refine ⟨_, rfl, A, P, S, K14, b, p, si, dx, _, N3, rfl, ow3, by omega, by omega, fun K15 H15 ka kx g15 ow15 hka kseen => ?_⟩
    obtain ⟨L1'', o1, d15⟩ := bk3 K15 H15 b p _ g15 ow15
    have o2 := o2.up g15
    refine ⟨small8 (by simp), fun tp2 htp2 => ?_⟩
    have d15 := d15.drop (o := .tup [.ref si2, .ref ka]) htp2
    refine ⟨_, _, rfl, t_of upd_same, rfl, _, _, rfl, _, _, rfl, rfl, ?_⟩
    revert d15
    generalize upd H15 tp2 (.tup [.ref si2, .ref ka]) = H16
    intro d15
    have tk : ∀ (x : Int), (eqSD S S && PyData.eqv (toldD S b p x) (toldD S b p x)) = true := fun x => by rw [eqSD_same ok rfl rfl, told_refl ok (good_nm ok gd)]; rfl
    obtain ⟨NA, owA, _⟩ := o1.dr d15
    obtain ⟨NB, owB, bkB⟩ := o2.dr (d15.perm perm12)
    refine ⟨_, rfl, _, rfl, si2, si, _, _, _, _, rfl, rfl, owB.fr, owA.fr, ?_⟩
    refine ⟨A2, P2, S, K15, b, p, si2, dx2, _, NB, A, P, S, K15, b, p, si, dx, _, NA, rfl, owB, owA, by omega, by omega, by omega, by omega, good_nm ok gd, good_nm ok gd, fun H17 g17 => ?_⟩
    rw [tk]
    have owB := owB.grow g17
    refine ⟨true, rfl, true, rfl, iteF ?_⟩
    refine ⟨_, rfl, A2, P2, S, K15, b, p, si2, dx2, _, NB, rfl, owB, by omega, by omega, fun K18 H18 sa sx g18 ow18 hsa sseen => ?_⟩
    obtain ⟨L2', o2, d18⟩ := bkB K18 H18 b p _ g18 ow18
    have d18 := d18.perm perm12
    have o1 := o1.up g18
    refine ⟨_, rfl, .ref sa, .ref ka, .list (seenD S b p (((12 : Int).toNat : Nat) : Int)), rfl, dq_lst (d18.ext _ _ hsa) (DqAll.up d18.ext _ _ (seen_dq sseen)), dq_lst (d18.ext _ _ (g18 _ _ hka)) (DqAll.up (Same.tr g18 d18.ext) _ _ (seen_dq kseen)), Nat.lt_succ_of_lt seen_dep, seen_w ok (by omega) (by omega), fun H19 g19 => ⟨true, rfl, iteF ?_⟩⟩
    have d19 := d18.grow g19
    generalize hnw : (((12 : Int).toNat : Nat) : Int) = nw at *
    clear d18 d15 d14 d7 d4 d2 d0
    refine ⟨6, rfl, by omega, by omega, fun D2 hD2 => ?_⟩
    have g718 := Same.tr g13 (Same.tr g14 (Same.tr g15 g18))
    have sc18 := Same.lst g718 sc7
    have tb18 := TabsAt.up g718 tb7
    refine lc_it (walk_range (lo := 0) (n := (6 : Int).toNat)) (fun j H' => ∃ K' dv sts L1 L2, Same K18 K' ∧ Dr K' H' row a ((D2, .lst dv) :: (L1 ++ (L2 ++ LM))) ∧ OneS K K' A P S si dx b p nw L1 ∧ OneS K K' A2 P2 S si2 dx2 b p nw L2 ∧ Paired (StepAt K K') dv sts ∧ (∀ st ∈ sts, StepOk S.ls S.ws st ∧ st.deed = true) ∧ dv.length = j) ⟨K18, [], [], _, _, Same.refl _, d19.own hD2, o1, o2, .nil, (fun _ m => nomatch m), rfl⟩ (fun _ _ _ _ => trivial) ?_ ?_
    · rintro j v H9 H10' hj ⟨K20, dv, sts, L1, L2, g20, d20, o1, o2, pdv, hst, hdl⟩ ⟨rfl, e2⟩
      have sc20 := Same.lst g20 sc18
      refine ⟨rfl, _, rfl, _, rfl, row, a, ns, Am, S, S.ws, K20, md0, _, rfl, ok, sc20, d20, List.mem_cons_of_mem _ (List.mem_append_right _ (List.mem_append_right _ hLM)), TabsAt.up g20 tb18, fun K21 H11 t st g21 d21 ht so dd => ?_⟩
      refine ⟨_, d21.at0, sml (m := 20) (by omega) (by decide), K21, dv ++ [.ref t], sts ++ [st], L1, L2, Same.tr g20 g21, d21.put, o1.up g21, o2.up g21, Paired.snoc (pdv.mono fun _ _ z => StepAt.up g21 z) ⟨t, rfl, ht⟩, fun s ms => ?_, by simp [hdl]⟩
      rcases List.mem_append.mp ms with ms | ms
      · exact hst s ms
      · obtain rfl := List.mem_singleton.mp ms
        exact ⟨so, dd⟩
    rintro H9 ⟨K20, dv, sts, L1, L2, g20, d20, o1, o2, pdv, hst, hdl⟩
    obtain ⟨d22, g22⟩ := d20.freeze
    have atD : upd K20 D2 (.lst dv) D2 = some (.lst dv) := upd_same
    revert d22 g22 atD
    generalize upd K20 D2 (.lst dv) = K22
    intro d22 g22 atD
    have pdv := pdv.mono fun _ _ z => StepAt.up g22 z
    have o1 := o1.up g22
    have o2 := o2.up g22
    have hdl6 : dv.length = 6 := hdl
    have hsl := pdv.length
    clear d20 d19
    refine ⟨_, rfl, _, rfl, ⟨_, l_of (d22.ext _ _ atD)⟩, fun D3 hD3 => ?_⟩
    refine lc_it (walk_list (xs := dv)) (fun j H' => ∃ K' acc L1 L2, Same K22 K' ∧ Dr K' H' row a ((D3, .lst acc) :: (L2 ++ (L1 ++ LM))) ∧ OneS K K' A P S si dx b p nw L1 ∧ OneS K K' A2 P2 S si2 dx2 (plD S b p (sts.take j)).2.1 (plD S b p (sts.take j)).2.2 (nw + ((j : Nat) : Int)) L2 ∧ GoodA S (plD S b p (sts.take j)).2.1 (plD S b p (sts.take j)).2.2 ∧ DqAll K K' (plD S b p (sts.take j)).1 acc ∧ RowsW (plD S b p (sts.take j)).1 ∧ acc.length = j) ⟨K22, [], L1, L2, Same.refl _, (d22.perm perm12).own hD3, o1, by simpa [plD] using o2, gd, by simp [plD, DqAll], (fun _ m => nomatch m), rfl⟩ ?_ ?_ ?_
    · rintro j H' _ ⟨K', acc, L1, L2, g, d, _⟩
      exact l_of (d.ext _ _ (g _ _ atD))
    · rintro j v H3 H4 hj ⟨K23, acc, L1, L2, g23, d23, o1, o2, gd2, dq2, rw2, al2⟩ ⟨rfl, e2⟩
      obtain ⟨st, hst', t, rfl, ht⟩ := pget pdv e2
      obtain ⟨so, dd⟩ := hst st (List.mem_of_getElem? hst')
      rw [plD_snoc hst']
      generalize plD S b p (sts.take j) = z at o2 gd2 dq2 rw2
      obtain ⟨ds, b2, p2⟩ := z
      simp only at o2 gd2 dq2 rw2
      obtain ⟨N9, ow9, bk9⟩ := o2.dr (d23.perm (List.perm_middle (l₁ := L2)))
      refine ⟨rfl, _, rfl, _, rfl, A2, P2, S, K23, b2, p2, si2, dx2, _, N9, t, st, rfl, ow9, Same.tup (Same.tr g23 d23.ext) ht, so, dd, fun H12 ow10 => ?_⟩
      have gd3 := deed_good (st := st) gd2
      have hr16 := gd3.rows16 ok
      have hs12 := gd3.stack12 ok
      refine ⟨_, rfl, si2, dx2, _, rfl, ow10.fr, rfl, A2, P2, S, K23, actB b2 st, p2, si2, dx2, _, N9, rfl, ow10, fun c m => gd3.calls c m, gd3.rows.inn, by omega, hs12, fun K24 H24 e1 ev1 g24 ow24 hev1 pev1 => ?_⟩
      obtain ⟨L2', o2, d24⟩ := bk9 K24 H24 _ _ _ g24 ow24
      refine ⟨small8 (by simp), fun tl htl => ?_⟩
      obtain ⟨d25, g25⟩ := d24.keep (o := .lst [doneV b2 st, .ref e1]) htl
      have at25 : upd K24 tl (.lst [doneV b2 st, .ref e1]) tl = some (.lst [doneV b2 st, .ref e1]) := upd_same
      revert d25 g25 at25
      generalize upd K24 tl (.lst [doneV b2 st, .ref e1]) = K25
      generalize upd H24 tl (.lst [doneV b2 st, .ref e1]) = H25
      intro d25 g25 at25
      have d25 := d25.perm (List.perm_middle (l₁ := L2')).symm
      have hev15 := tickA_evs (S := S) (b := actB b2 st) (p := p2) ((takeA_good ok gd3 (ready_in ok).1 (ready_in ok).2).stack12 ok)
      have gg := Same.tr g24 g25
      refine ⟨_, d25.at0, sml (m := 20) (by omega) (by decide), K25, acc ++ [.ref tl], L1, L2', Same.tr g23 gg, d25.put, o1.up gg, ?_, tickA_good ok gd3, ?_, rowsW_snoc rw2 (rowD_w (S := S) (b := b2) (p := p2) (st := st) (by omega)), by simp [al2]⟩
      · have z := o2.up g25
        rw [show nw + ((j + 1 : Nat) : Int) = nw + ((j : Nat) : Int) + 1 by omega]
        exact z
      · refine dqAll_snoc ?_ (DqAll.up gg _ _ dq2)
        refine dq_lst at25 ?_
        simp only [DqAll]
        exact ⟨_, _, rfl, doneD_dq dd, _, _, rfl, dq_lst (g25 _ _ hev1) (dq_pair (f := evD) (fun _ _ z => ev_dq z) (pev1.mono fun _ _ z => EvAt.up g25 z)), rfl⟩
    rintro H3 ⟨K23, tacc, L1, L2, g23, d23, o1, o2, gd2, dq2, rw2, al2⟩
    rw [hdl6] at o2 gd2 dq2 rw2 al2
    rw [List.take_of_length_le (by omega)] at o2 gd2 dq2 rw2
    obtain ⟨d24, g24⟩ := d23.freeze
    have atT : upd K23 D3 (.lst tacc) D3 = some (.lst tacc) := upd_same
    revert d24 g24 atT
    generalize upd K23 D3 (.lst tacc) = K24
    intro d24 g24 atT
    have dqT := DqAll.up g24 _ _ dq2
    have o1 := o1.up g24
    have o2 := o2.up g24
    clear d23 dq2
    generalize hz : plD S b p sts = z at o2 gd2 rw2 dqT
    obtain ⟨ds, b2, p2⟩ := z
    simp only at o2 gd2 rw2 dqT
    have g1824 := Same.tr g20 (Same.tr g22 (Same.tr g23 g24))
    have hr2 := gd2.rows16 ok
    have hs2 := gd2.stack12 ok
    obtain ⟨N25, ow25, bk25⟩ := o1.dr (d24.perm perm12)
    refine ⟨_, rfl, A, P, S, K24, b, p, si, dx, nw, N25, rfl, ow25, by omega, by omega, fun K25 H25 sb sbx g25 ow26 hsb bseen => ?_⟩
    obtain ⟨L1', o1, d25⟩ := bk25 K25 H25 b p nw g25 ow26
    have o2 := o2.up g25
    refine ⟨_, rfl, .ref sb, .ref ka, .list (seenD S b p nw), rfl, dq_lst (d25.ext _ _ hsb) (DqAll.up d25.ext _ _ (seen_dq bseen)), dq_lst (d25.ext _ _ (g25 _ _ (g1824 _ _ (g18 _ _ hka)))) (DqAll.up (Same.tr g18 (Same.tr g1824 (Same.tr g25 d25.ext))) _ _ (seen_dq kseen)), Nat.lt_succ_of_lt seen_dep, seen_w ok (by omega) (by omega), fun H26 g26 => ⟨true, rfl, iteF ?_⟩⟩
    have d26 := d25.grow g26
    obtain ⟨NA, owA, _⟩ := o1.dr d26
    obtain ⟨NB, owB, _⟩ := o2.dr (d26.perm perm12)
    refine ⟨_, rfl, _, rfl, si2, si, _, _, _, _, rfl, rfl, owB.fr, owA.fr, ?_⟩
    refine ⟨A2, P2, S, K25, b2, p2, si2, dx2, _, NB, A, P, S, K25, b, p, si, dx, _, NA, rfl, owB, owA, by omega, by omega, by omega, by omega, good_nm ok gd2, good_nm ok gd, fun H27 g27 => ?_⟩
    rw [told_now (by omega), Bool.and_false]
    refine ⟨false, rfl, false, rfl, iteF ?_⟩
    have owA := owA.grow g27
    have owB := owB.grow g27
    refine ⟨_, rfl, _, rfl, si, si2, _, _, _, _, rfl, rfl, owA.fr, owB.fr, ?_⟩
    refine ⟨A, P, S, K25, b, p, si, dx, _, NA, A2, P2, S, K25, b2, p2, si2, dx2, _, NB, rfl, owA, owB, by omega, by omega, by omega, by omega, good_nm ok gd, good_nm ok gd2, fun H28 g28 => ?_⟩
    rw [told_now (by omega), Bool.and_false]
    refine ⟨false, rfl, false, rfl, iteF ?_⟩
    have d28 := (d26.grow g27).grow g28
    clear owA owB d26 d25 d24
    have atD' := g25 _ _ (g24 _ _ (g23 _ _ atD))
    have pdv' := pdv.mono fun _ _ z => StepAt.up (Same.tr g23 (Same.tr g24 g25)) z
    refine ⟨_, rfl, _, rfl, ⟨_, l_of (d28.ext _ _ atD')⟩, fun D3' hD3 => ?_⟩
    refine lc_it (walk_list (xs := dv)) (fun j H' => ∃ K' acc L1 L2, Same K25 K' ∧ Dr K' H' row a ((D3', .lst acc) :: (L1 ++ (L2 ++ LM))) ∧ OneS K K' A2 P2 S si2 dx2 b2 p2 (nw + 6) L2 ∧ OneS K K' A P S si dx (plD S b p (sts.take j)).2.1 (plD S b p (sts.take j)).2.2 (nw + ((j : Nat) : Int)) L1 ∧ GoodA S (plD S b p (sts.take j)).2.1 (plD S b p (sts.take j)).2.2 ∧ DqAll K K' (plD S b p (sts.take j)).1 acc ∧ RowsW (plD S b p (sts.take j)).1 ∧ acc.length = j) ⟨K25, [], _, _, Same.refl _, d28.own hD3, o2, by simpa [plD] using o1, gd, by simp [plD, DqAll], (fun _ m => nomatch m), rfl⟩ ?_ ?_ ?_
    · rintro j H' _ ⟨K', acc, L1, L2, g, d, _⟩
      exact l_of (d.ext _ _ (g _ _ atD'))
    · rintro j v H3 H4 hj ⟨K23', acc, L1, L2, g23', d23, o2', o1, gd2', dq2, rw2', al2⟩ ⟨rfl, e2⟩
      obtain ⟨st, hst', t, rfl, ht⟩ := pget pdv' e2
      obtain ⟨so, dd⟩ := hst st (List.mem_of_getElem? hst')
      rw [plD_snoc hst']
      generalize plD S b p (sts.take j) = z at o1 gd2' dq2 rw2'
      obtain ⟨ds3, b3, p3⟩ := z
      simp only at o1 gd2' dq2 rw2'
      obtain ⟨N9, ow9, bk9⟩ := o1.dr (d23.perm (List.perm_middle (l₁ := L1)))
      refine ⟨rfl, _, rfl, _, rfl, A, P, S, K23', b3, p3, si, dx, _, N9, t, st, rfl, ow9, Same.tup (Same.tr g23' d23.ext) ht, so, dd, fun H12 ow10 => ?_⟩
      have gd3 := deed_good (st := st) gd2'
      have hr16 := gd3.rows16 ok
      have hs12 := gd3.stack12 ok
      refine ⟨_, rfl, si, dx, _, rfl, ow10.fr, rfl, A, P, S, K23', actB b3 st, p3, si, dx, _, N9, rfl, ow10, fun c m => gd3.calls c m, gd3.rows.inn, by omega, hs12, fun K24 H24 e1 ev1 g24 ow24 hev1 pev1 => ?_⟩
      obtain ⟨L1', o1, d24⟩ := bk9 K24 H24 _ _ _ g24 ow24
      refine ⟨small8 (by simp), fun tl htl => ?_⟩
      obtain ⟨d25, g25⟩ := d24.keep (o := .lst [doneV b3 st, .ref e1]) htl
      have at25 : upd K24 tl (.lst [doneV b3 st, .ref e1]) tl = some (.lst [doneV b3 st, .ref e1]) := upd_same
      revert d25 g25 at25
      generalize upd K24 tl (.lst [doneV b3 st, .ref e1]) = K25
      generalize upd H24 tl (.lst [doneV b3 st, .ref e1]) = H25
      intro d25 g25 at25
      have d25 := d25.perm (List.perm_middle (l₁ := L1')).symm
      have hev15 := tickA_evs (S := S) (b := actB b3 st) (p := p3) ((takeA_good ok gd3 (ready_in ok).1 (ready_in ok).2).stack12 ok)
      have gg := Same.tr g24 g25
      refine ⟨_, d25.at0, sml (m := 20) (by omega) (by decide), K25, acc ++ [.ref tl], L1', L2, Same.tr g23' gg, d25.put, o2'.up gg, ?_, tickA_good ok gd3, ?_, rowsW_snoc rw2' (rowD_w (S := S) (b := b3) (p := p3) (st := st) (by omega)), by simp [al2]⟩
      · have z := o1.up g25
        rw [show nw + ((j + 1 : Nat) : Int) = nw + ((j : Nat) : Int) + 1 by omega]
        exact z
      · refine dqAll_snoc ?_ (DqAll.up gg _ _ dq2)
        refine dq_lst at25 ?_
        simp only [DqAll]
        exact ⟨_, _, rfl, doneD_dq dd, _, _, rfl, dq_lst (g25 _ _ hev1) (dq_pair (f := evD) (fun _ _ z => ev_dq z) (pev1.mono fun _ _ z => EvAt.up g25 z)), rfl⟩
    rintro H3 ⟨K29, gacc, L1, L2, g29, d29, o2, o1, gd3, dq3, rw3, al3⟩
    rw [hdl6] at o1 gd3 dq3 rw3 al3
    rw [List.take_of_length_le (by omega), hz] at o1 gd3 dq3 rw3
    simp only at o1 gd3 dq3 rw3
    obtain ⟨d30, g30⟩ := d29.freeze
    have atG : upd K29 D3' (.lst gacc) D3' = some (.lst gacc) := upd_same
    revert d30 g30 atG
    generalize upd K29 D3' (.lst gacc) = K30
    intro d30 g30 atG
    have dqG := DqAll.up g30 _ _ dq3
    have o1 := o1.up g30
    have o2 := o2.up g30
    clear d29 dq3 rw3 gd3
    have g2430 := Same.tr g25 (Same.tr g29 g30)
    have lds : ds.length = 6 := by rw [← al2]; exact (DqAll.len dqT).symm
    refine ⟨_, rfl, _, rfl, .ref D3', .ref D3, .list ds, rfl, dq_lst (d30.ext _ _ atG) (DqAll.up d30.ext _ _ dqG), dq_lst (d30.ext _ _ (g2430 _ _ atT)) (DqAll.up (Same.tr g2430 d30.ext) _ _ dqT), ?_, ?_, fun H31 g31 => ⟨true, rfl, iteF ?_⟩⟩
    · have := dep_le fun d m => (rw2 d m).1
      rw [PyData.depth]
      omega
    · rw [wOk]
      exact ⟨by omega, wOkAll.of fun d m => (rw2 d m).2⟩
    have d31 := d30.grow g31
    have tk2 : ∀ (x : Int), (eqSD S S && PyData.eqv (toldD S b2 p2 x) (toldD S b2 p2 x)) = true := fun x => by rw [eqSD_same ok rfl rfl, told_refl ok (good_nm ok gd2)]; rfl
    rw [show nw + ((6 : Nat) : Int) = nw + 6 from rfl] at o1
    obtain ⟨NA, owA, _⟩ := o1.dr d31
    obtain ⟨NB, owB, _⟩ := o2.dr (d31.perm perm12)
    refine ⟨_, rfl, _, rfl, si, si2, _, _, _, _, rfl, rfl, owA.fr, owB.fr, ?_⟩
    refine ⟨A, P, S, K30, b2, p2, si, dx, _, NA, A2, P2, S, K30, b2, p2, si2, dx2, _, NB, rfl, owA, owB, by omega, by omega, by omega, by omega, good_nm ok gd2, good_nm ok gd2, fun H32 g32 => ?_⟩
    rw [tk2]
    refine ⟨true, rfl, true, rfl, iteF ?_⟩
    have d32 := d31.grow g32
    clear owA owB d31 d30 d28
    obtain ⟨i3, gg3, x3, hi3, hg3, sp32⟩ := d32
    have ow32 := o1.own (sp32.perm List.perm_middle)
    refine ⟨_, rfl, si, dx, _, rfl, ow32.fr, rfl, A, P, S, K30, b2, p2, si, dx, _, _, rfl, ow32, by omega, by omega, fun K33 H33 A3 P3 si3 dx3 L3 g33 eA3 o3 ow33 => ?_⟩
    obtain ⟨L1', o1, sp33⟩ := ow33.one
    have d33 : Dr K33 H33 row a (L1' ++ (L3 ++ (L2 ++ LM))) := ⟨i3, gg3, x3, hi3, hg3, sp33.perm (permC _ _ _ _)⟩
    clear sp33 sp32 ow32 ow33
    have o2 := o2.up g33
    obtain ⟨N3, ow3, bk3⟩ := o3.dr (d33.perm perm12)
    refine ⟨_, rfl, si3, dx3, _, rfl, ow3.fr, rfl, A3, P3, S, K33, b2, p2, si3, dx3, _, N3, rfl, ow3, fun c m => gd2.calls c m, gd2.rows.inn, by omega, hs2, fun K34 H34 e1 ev1 g34 ow34 hev1 pev1 => ?_⟩
    obtain ⟨L3', o3, d34⟩ := bk3 K34 H34 _ _ _ g34 ow34
    have o1 := o1.up g34
    have o2 := o2.up g34
    have gd4 := tickA_good ok gd2
    have hr4 := gd4.rows16 ok
    have hs4 := gd4.stack12 ok
    obtain ⟨NA, owA, _⟩ := o3.dr d34
    obtain ⟨NB, owB, _⟩ := o1.dr (d34.perm perm12)
    refine ⟨_, rfl, _, rfl, si3, si, _, _, _, _, rfl, rfl, owA.fr, owB.fr, ?_⟩
    refine ⟨A3, P3, S, K34, _, _, si3, dx3, _, NA, A, P, S, K34, b2, p2, si, dx, _, NB, rfl, owA, owB, by omega, by omega, by omega, by omega, good_nm ok gd4, good_nm ok gd2, fun H35 g35 => ?_⟩
    rw [told_now (by omega), Bool.and_false]
    refine ⟨false, rfl, false, rfl, iteF ?_⟩
    have owB := owB.grow g35
    have d35 := d34.grow g35
    clear owA
    have hka35 := d35.ext _ _ (g34 _ _ (g33 _ _ (g2430 _ _ (g1824 _ _ (g18 _ _ hka)))))
    refine ⟨_, rfl, _, rfl, si, _, _, ka, .type "list", rfl, rfl, owB.fr, .inl ⟨_, l_of hka35, rfl⟩, T.q_list, ?_⟩
    refine ⟨A, P, S, K34, b2, p2, si, dx, _, NB, ka, .type "list", rfl, owB, .base (.lst hka35), T.q_list, false, rfl, false, rfl, iteF ?_⟩
    clear owB
    have g734 := Same.tr g718 (Same.tr g1824 (Same.tr g2430 (Same.tr g33 g34)))
    have hla34 := LinesAt.up g734 hla7
    have hwa34 := WorksAt.up g734 hwa7
    obtain ⟨i4, gg4, x4, hi4, hg4, sp35⟩ := id d35
    refine ⟨_, rfl, _, rfl, _, rfl, fun s5 ds5 hs5 hds5 hne5 => ?_⟩
    have t5 := sp35.obj (o := .own s5) (o' := .ins (aC "Setup" K) ds5 []) hs5 hds5 hne5
    refine ⟨s5, ds5, la, wa, S.ls, S.ws, K34, _, rfl, t5, hla34, hwa34, lok, wok, aok, fun K36 H36 S5 g36 sp36 sat5 eL5 eW5 ok5 => ⟨rfl, ?_⟩⟩
    have d36 : Dr K36 H36 row a (L3' ++ (L1' ++ (L2 ++ LM))) := ⟨i4, gg4, x4, hi4, hg4, sp36⟩
    have o1 := o1.up g36
    have o2 := o2.up g36
    obtain ⟨dxs5, _, _, _, _, _, hS5, _⟩ := (SetupAt.up sp36.ext sat5).ex
    obtain ⟨NB, owB, _⟩ := o1.dr (d36.perm perm12)
    refine ⟨si, _, _, s5, .ref (aC "Setup" K), rfl, rfl, owB.fr, .inr ⟨_, _, _, hS5, rfl⟩, T.q_setup, ?_⟩
    refine ⟨A, P, S, K36, b2, p2, si, dx, _, NB, s5, .ref (aC "Setup" K), rfl, owB, .base (TyOf.ins hS5 T.i_Setup.cl T.i_Setup.ha T.i_Setup.hn T.i_Setup.htk T.i_Setup.hm), T.q_setup, false, rfl, false, rfl, iteF ?_⟩
    clear owB t5 sp35 sp36 d35 d34 d33
    dsimp only [tNext, tSeq, tAsg, gName]
    have hla36 := LinesAt.up g36 hla34
    have hwa36 := WorksAt.up g36 hwa34
    obtain ⟨xl, hxl, pxl⟩ := id hla36.ex
    obtain ⟨xw, hxw, pxw⟩ := id hwa36.ex
    have hlx := pxl.length
    have hwx := pxw.length
    have hwle := wok.le
    have hlle := lok.le
    generalize hW : L3' ++ (L1' ++ (L2 ++ LM)) = W at d36
    refine (show ∀ R : V → Hp → Prop, (∀ K6 H6 S6 A6 P6 s6 dx6 L6, Same K36 K6 → SetOk S6 → eqSD S S6 = false → OneS K K6 A6 P6 S6 s6 dx6 bd0 pr0 0 L6 → Dr K6 H6 row a (L6 ++ W) → R (.ref s6) H6) → tIf _ _ _ _ _ R from fun R hR => ?_) _ ?_
    · refine ⟨_, rfl, _, _, rfl, .inr (Same.tup d36.ext hxl), _, _, rfl, rfl, decide (1 < S.ls.length), ?_, ?_⟩
      · rw [hlx]
        exact congrArg V.bl (decide_eq_decide.mpr (by omega))
      by_cases hl1 : 1 < S.ls.length
      · rw [decide_eq_true hl1]
        refine iteT ?_
        refine ⟨_, rfl, la, xl, rfl, Same.tup d36.ext hxl, fun lr hlr => ?_⟩
        obtain ⟨d37, g37⟩ := d36.keep (o := .tup xl.reverse) hlr
        have at37 : upd K36 lr (.tup xl.reverse) lr = some (.tup xl.reverse) := upd_same
        revert d37 g37 at37
        generalize upd K36 lr (.tup xl.reverse) = K37
        generalize upd H36 lr (.tup xl.reverse) = H37
        intro d37 g37 at37
        have hlr37 : LinesAt K K37 lr S.ls.reverse := ⟨xl.reverse, t_of at37, prev (pxl.mono fun _ _ z => LineAt.up g37 z)⟩
        obtain ⟨iq6, gq6, xq6, hiq6, hgq6, spq6⟩ := id d37
        refine ⟨_, rfl, fun s6 ds6 hs6 hds6 hne6 => ?_⟩
        have ta6 := spq6.obj (o := .own s6) (o' := .ins (aC "Setup" K) ds6 []) hs6 hds6 hne6
        refine ⟨s6, ds6, lr, wa, S.ls.reverse, S.ws, K37, _, rfl, ta6, hlr37, (WorksAt.up g37 hwa36), (rev_ls lok), wok, (rev_all aok), fun Ka6 Ha6 S6 ga6 spa6 sat6 eL6 eW6 ok6 => ⟨rfl, ?_⟩⟩
        refine fun si6 dx6 hsi6 hdx6 hnf6 => ?_
        have tb6 := spa6.obj (o := .own si6) (o' := .ins (aC "Single" K) dx6 []) hsi6 hdx6 hnf6
        refine ⟨si6, dx6, s6, S6, Ka6, _, rfl, tb6, sat6, ok6, fun Kb6 Hb6 A6 P6 gb6 eA6 ow6 => ⟨rfl, ?_⟩⟩
        obtain ⟨L6, o6, spb6⟩ := ow6.one
        have d6 : Dr Kb6 Hb6 row a (L6 ++ _) := ⟨iq6, gq6, xq6, hiq6, hgq6, spb6.perm List.perm_middle.symm⟩
        clear spb6 ow6 tb6 ta6 spa6 spq6
        exact hR Kb6 Hb6 S6 A6 P6 si6 dx6 L6 (Same.tr g37 (Same.tr ga6 gb6)) ok6 (rev_other ok hl1 eL6) o6 d6
      · rw [decide_eq_false hl1]
        refine iteF ?_
        refine ⟨_, rfl, _, rfl, small8 (by simp), fun z1 hz1 => ?_⟩
        obtain ⟨d37, g37⟩ := d36.keep (o := .tup [.str "zz", .int 1, .int 1]) hz1
        have at37 : upd K36 z1 (.tup [.str "zz", .int 1, .int 1]) z1 = some (.tup [.str "zz", .int 1, .int 1]) := upd_same
        revert d37 g37 at37
        generalize upd K36 z1 (.tup [.str "zz", .int 1, .int 1]) = K37
        generalize upd H36 z1 (.tup [.str "zz", .int 1, .int 1]) = H37
        intro d37 g37 at37
        refine ⟨small8 (by simp), fun z2 hz2 => ?_⟩
        obtain ⟨d38, g38⟩ := d37.keep (o := .tup [.ref z1]) hz2
        have at38 : upd K37 z2 (.tup [.ref z1]) z2 = some (.tup [.ref z1]) := upd_same
        revert d38 g38 at38
        generalize upd K37 z2 (.tup [.ref z1]) = K38
        generalize upd H37 z2 (.tup [.ref z1]) = H38
        intro d38 g38 at38
        have g3638 := Same.tr g37 g38
        have hzz : WorkAt K K38 (.ref z1) ⟨"zz", 1, 1⟩ := ⟨z1, rfl, t_of (g38 _ _ at37)⟩
        refine (show ∀ R : V → Hp → Prop, (∀ K9 H9 wz, Same K38 K9 → Dr K9 H9 row a W → WorksAt K K9 wz (S.ws ++ [⟨"zz", 1, 1⟩]) → R (.ref wz) H9) → rCatA _ (.ref wa) (.ref z2) H38 R from fun R hR => ?_) _ ?_
        · refine ⟨wa, z2, xw, [.ref z1], rfl, rfl, Same.tup (Same.tr g3638 d38.ext) hxw, t_of (d38.ext _ _ at38), Nat.le_of_lt (sml (m := 20) (by simp; omega) (by decide)), fun e => ?_, fun _ e => (nomatch e), fun _ _ p hp => ?_⟩
          · refine hR K38 H38 z2 (Same.refl _) d38 ⟨[.ref z1], t_of at38, ?_⟩
            rw [e] at hwx
            rw [List.length_eq_zero_iff.mp hwx.symm]
            exact .cons hzz .nil
          · obtain ⟨d39, g39⟩ := d38.keep (o := .tup (xw ++ [.ref z1])) hp
            have at39 : upd K38 p (.tup (xw ++ [.ref z1])) p = some (.tup (xw ++ [.ref z1])) := upd_same
            exact hR _ _ p g39 d39 ⟨_, t_of at39, psnoc' (pxw.mono fun _ _ z => WorkAt.up (Same.tr g3638 g39) z) (WorkAt.up g39 hzz)⟩
        intro K9 H9 wz g9 d9 hz9
        have g369 := Same.tr g3638 g9
        obtain ⟨iq6, gq6, xq6, hiq6, hgq6, spq6⟩ := id d9
        refine fun s6 ds6 hs6 hds6 hne6 => ?_
        have ta6 := spq6.obj (o := .own s6) (o' := .ins (aC "Setup" K) ds6 []) hs6 hds6 hne6
        refine ⟨s6, ds6, la, wz, S.ls, (S.ws ++ [⟨"zz", 1, 1⟩]), K9, _, rfl, ta6, (LinesAt.up g369 hla36), hz9, lok, (more_ws wok hwn), (more_all aok), fun Ka6 Ha6 S6 ga6 spa6 sat6 eL6 eW6 ok6 => ⟨rfl, ?_⟩⟩
        refine fun si6 dx6 hsi6 hdx6 hnf6 => ?_
        have tb6 := spa6.obj (o := .own si6) (o' := .ins (aC "Single" K) dx6 []) hsi6 hdx6 hnf6
        refine ⟨si6, dx6, s6, S6, Ka6, _, rfl, tb6, sat6, ok6, fun Kb6 Hb6 A6 P6 gb6 eA6 ow6 => ⟨rfl, ?_⟩⟩
        obtain ⟨L6, o6, spb6⟩ := ow6.one
        have d6 : Dr Kb6 Hb6 row a (L6 ++ _) := ⟨iq6, gq6, xq6, hiq6, hgq6, spb6.perm List.perm_middle.symm⟩
        clear spb6 ow6 tb6 ta6 spa6 spq6
        exact hR Kb6 Hb6 S6 A6 P6 si6 dx6 L6 (Same.tr g369 (Same.tr ga6 gb6)) ok6 (more_other eW6) o6 d6
    rintro K6 H6 S6 A6 P6 s6 dx6 L6 g6 ok6 e6 o6 d6
    have hla6 := LinesAt.up g6 hla36
    have hwa6 := WorksAt.up g6 hwa36
    obtain ⟨iq7, gq7, xq7, hiq7, hgq7, spq7⟩ := id d6
    refine ⟨_, rfl, _, rfl, fun s7 ds7 hs7 hds7 hne7 => ?_⟩
    have ta7 := spq7.obj (o := .own s7) (o' := .ins (aC "Setup" K) ds7 []) hs7 hds7 hne7
    refine ⟨s7, ds7, la, wa, S.ls, S.ws, K6, _, rfl, ta7, hla6, hwa6, lok, wok, aok, fun Ka7 Ha7 S7 ga7 spa7 sat7 eL7 eW7 ok7 => ⟨rfl, ?_⟩⟩
    refine fun si7 dx7 hsi7 hdx7 hnf7 => ?_
    have tb7 := spa7.obj (o := .own si7) (o' := .ins (aC "Single" K) dx7 []) hsi7 hdx7 hnf7
    refine ⟨si7, dx7, s7, S7, Ka7, _, rfl, tb7, sat7, ok7, fun Kb7 Hb7 A7 P7 gb7 eA7 ow7 => ⟨rfl, ?_⟩⟩
    obtain ⟨L7, o7, spb7⟩ := ow7.one
    have d7 : Dr Kb7 Hb7 row a (L7 ++ _) := ⟨iq7, gq7, xq7, hiq7, hgq7, spb7.perm List.perm_middle.symm⟩
    clear spb7 ow7 tb7 ta7 spa7 spq7
    have o6 := o6.up (Same.tr ga7 gb7)
    obtain ⟨NA, owA, _⟩ := o7.dr d7
    obtain ⟨NB, owB, _⟩ := o6.dr (d7.perm perm12)
    have gd0 := good0 (S := S)
    refine ⟨_, rfl, si7, s6, _, _, _, _, rfl, rfl, owA.fr, owB.fr, ?_⟩
    refine ⟨A7, P7, S7, Kb7, bd0, pr0, si7, dx7, 0, NA, A6, P6, S6, Kb7, bd0, pr0, s6, dx6, 0, NB, rfl, owA, owB, by simp [pr0], by simp [pr0], by simp [pr0], by simp [pr0], good_nm ok7 good0, good_nm ok6 good0, fun H71 g71 => ?_⟩
    rw [eqSD_l eL7 eW7, e6, Bool.false_and]
    refine ⟨false, rfl, false, rfl, iteF ?_⟩
    clear owA owB
    have d71 := d7.grow g71
    have g367 := Same.tr g6 (Same.tr ga7 gb7)
    have hla7' := LinesAt.up g367 hla36
    have hwa7' := WorksAt.up g367 hwa36
    obtain ⟨iq8, gq8, xq8, hiq8, hgq8, spq8⟩ := id d71
    refine ⟨_, rfl, _, rfl, fun s8 ds8 hs8 hds8 hne8 => ?_⟩
    have ta8 := spq8.obj (o := .own s8) (o' := .ins (aC "Setup" K) ds8 []) hs8 hds8 hne8
    refine ⟨s8, ds8, la, wa, S.ls, S.ws, Kb7, _, rfl, ta8, hla7', hwa7', lok, wok, aok, fun Ka8 Ha8 S8 ga8 spa8 sat8 eL8 eW8 ok8 => ⟨rfl, ?_⟩⟩
    refine fun si8 dx8 hsi8 hdx8 hnf8 => ?_
    have tb8 := spa8.obj (o := .own si8) (o' := .ins (aC "Single" K) dx8 []) hsi8 hdx8 hnf8
    refine ⟨si8, dx8, s8, S8, Ka8, _, rfl, tb8, sat8, ok8, fun Kb8 Hb8 A8 P8 gb8 eA8 ow8 => ⟨rfl, ?_⟩⟩
    obtain ⟨L8, o8, spb8⟩ := ow8.one
    have d8 : Dr Kb8 Hb8 row a (L8 ++ _) := ⟨iq8, gq8, xq8, hiq8, hgq8, spb8.perm List.perm_middle.symm⟩
    clear spb8 ow8 tb8 ta8 spa8 spq8
    have hla8' := LinesAt.up (Same.tr ga8 gb8) hla7'
    have hwa8' := WorksAt.up (Same.tr ga8 gb8) hwa7'
    obtain ⟨iq9, gq9, xq9, hiq9, hgq9, spq9⟩ := id d8
    refine ⟨_, rfl, _, rfl, fun s9 ds9 hs9 hds9 hne9 => ?_⟩
    have ta9 := spq9.obj (o := .own s9) (o' := .ins (aC "Setup" K) ds9 []) hs9 hds9 hne9
    refine ⟨s9, ds9, la, wa, S.ls, S.ws, Kb8, _, rfl, ta9, hla8', hwa8', lok, wok, aok, fun Ka9 Ha9 S9 ga9 spa9 sat9 eL9 eW9 ok9 => ⟨rfl, ?_⟩⟩
    refine fun si9 dx9 hsi9 hdx9 hnf9 => ?_
    have tb9 := spa9.obj (o := .own si9) (o' := .ins (aC "Single" K) dx9 []) hsi9 hdx9 hnf9
    refine ⟨si9, dx9, s9, S9, Ka9, _, rfl, tb9, sat9, ok9, fun Kb9 Hb9 A9 P9 gb9 eA9 ow9 => ⟨rfl, ?_⟩⟩
    obtain ⟨L9, o9, spb9⟩ := ow9.one
    have d9 : Dr Kb9 Hb9 row a (L9 ++ _) := ⟨iq9, gq9, xq9, hiq9, hgq9, spb9.perm List.perm_middle.symm⟩
    clear spb9 ow9 tb9 ta9 spa9 spq9
    have o8 := o8.up (Same.tr ga9 gb9)
    obtain ⟨NA, owA, _⟩ := o9.dr d9
    obtain ⟨NB, owB, _⟩ := o8.dr (d9.perm perm12)
    refine ⟨si8, si9, _, _, _, _, rfl, rfl, owB.fr, owA.fr, ?_⟩
    refine ⟨A8, P8, S8, Kb9, bd0, pr0, si8, dx8, 0, NB, A9, P9, S9, Kb9, bd0, pr0, si9, dx9, 0, NA, rfl, owB, owA, by simp [pr0], by simp [pr0], by simp [pr0], by simp [pr0], good_nm ok8 good0, good_nm ok9 good0, fun H91 g91 => ?_⟩
    rw [eqSD_same ok9 (eL8.trans eL9.symm) (eW8.trans eW9.symm), told0 (S := S8) (S' := S9), told_refl ok9 (good_nm ok9 good0)]
    refine ⟨true, rfl, true, rfl, iteF ?_⟩
    clear owA owB
    have g369' := Same.tr g367 (Same.tr (Same.tr ga8 gb8) (Same.tr ga9 gb9))
    have o1 := o1.up g369'
    have o2 := o2.up g369'
    have d91 := d9.grow g91
    have d92 : ∃ W2, Dr Kb9 H91 row a (L1' ++ (L2 ++ W2)) := by
      subst hW
      refine ⟨L9 ++ (L8 ++ (L7 ++ (L6 ++ (L3' ++ LM)))), d91.perm ?_⟩
      exact permW _ _ _ _ _ _ _ _
    obtain ⟨W2, d92⟩ := d92
    clear d91 d9 d8 d71 d7 d6
    obtain ⟨i5, gg5, x5, hi5, hg5, sp92⟩ := d92
    have ow := o1.own (sp92.perm List.perm_middle)
    have g30 := Same.tr g36 g369'
    refine ⟨_, rfl, si, dx, _, rfl, ow.fr, A, P, S, Kb9, b2, p2, si, dx, _, _, rfl, ow, fun Kf0 Hf0 f0 fx0 gf0 of0 lf0 => ?_⟩
    have of0 := of0.swapM
    refine ⟨_, rfl, si, dx, _, rfl, of0.fr, A, P, S, Kf0, b2, p2, si, dx, _, _, rfl, of0, by omega, fun Kf1 Hf1 f1 fx1 gf1 of1 lf1 => ?_⟩
    have of1 := of1.swapM
    refine ⟨_, rfl, si, dx, _, rfl, of1.fr, A, P, S, Kf1, b2, p2, si, dx, _, _, rfl, of1, by omega, fun Kf2 Hf2 f2 fx2 gf2 of2 lf2 => ?_⟩
    have of2 := of2.swapM
    refine ⟨_, rfl, si, dx, _, rfl, of2.fr, A, P, S, Kf2, b2, p2, si, dx, _, _, rfl, of2, fun Kf3 Hf3 f3 fx3 gf3 of3 lf3 => ?_⟩
    have of3 := of3.swapM
    refine ⟨_, rfl, si, dx, _, rfl, of3.fr, A, P, S, Kf3, b2, p2, si, dx, _, _, rfl, of3, fun Kf4 Hf4 f4 fx4 gf4 of4 lf4 => ?_⟩
    have of4 := of4.swapM
    refine ⟨_, rfl, si, dx, _, rfl, of4.fr, A, P, S, Kf4, b2, p2, si, dx, _, _, rfl, of4, fun Kf5 Hf5 f5 fx5 gf5 of5 lf5 => ?_⟩
    have of5 := of5.swapM
    obtain ⟨L1f, o1f, spf⟩ := of5.one
    refine ⟨small8 (by simp), fun tp9 htp9 => ?_⟩
    have spt := spf.keep (o := .tup [.ref f0, .ref f1, .ref f2, .ref f3, .ref f4, .ref f5]) htp9
    have gt := spf.newk (o := .tup [.ref f0, .ref f1, .ref f2, .ref f3, .ref f4, .ref f5]) htp9
    have att : upd Kf5 tp9 (.tup [.ref f0, .ref f1, .ref f2, .ref f3, .ref f4, .ref f5]) tp9 = some (.tup [.ref f0, .ref f1, .ref f2, .ref f3, .ref f4, .ref f5]) := upd_same
    revert spt gt att
    generalize upd Kf5 tp9 (.tup [.ref f0, .ref f1, .ref f2, .ref f3, .ref f4, .ref f5]) = Kt
    generalize upd Hf5 tp9 (.tup [.ref f0, .ref f1, .ref f2, .ref f3, .ref f4, .ref f5]) = Ht
    intro spt gt att
    have gft := Same.tr gf0 (Same.tr gf1 (Same.tr gf2 (Same.tr gf3 (Same.tr gf4 (Same.tr gf5 gt)))))
    have o1t := o1f.up gt
    have o2t := o2.up gft
    clear of0 of1 of2 of3 of4 of5 spf ow
    have spC : Sep Kt Ht (apC [(f0, fx0), (f1, fx1), (f2, fx2), (f3, fx3), (f4, fx4), (f5, fx5)] 0 ++ (L1f ++ ((row, rowO a i5 gg5 x5) :: (L2 ++ W2)))) := by
      have z := spt.perm (List.perm_append_comm_assoc [(f5, HO.lst fx5), (f4, .lst fx4), (f3, .lst fx3), (f2, .lst fx2), (f1, .lst fx1), (f0, .lst fx0)] L1f ((row, rowO a i5 gg5 x5) :: (L2 ++ W2)))
      exact z.perm ((List.reverse_perm [(f5, HO.lst fx5), (f4, .lst fx4), (f3, .lst fx3), (f2, .lst fx2), (f1, .lst fx1), (f0, .lst fx0)]).append_right _)
    have hlen : ∀ e ∈ [(f0, fx0), (f1, fx1), (f2, fx2), (f3, fx3), (f4, fx4), (f5, fx5)], e.2.length ≤ 20 := by
      intro e m
      simp only [List.mem_cons, List.not_mem_nil, or_false] at m
      rcases m with rfl | rfl | rfl | rfl | rfl | rfl <;> simp only <;> omega
    have hads : [V.ref f0, .ref f1, .ref f2, .ref f3, .ref f4, .ref f5] = [(f0, fx0), (f1, fx1), (f2, fx2), (f3, fx3), (f4, fx4), (f5, fx5)].map fun e => V.ref e.1 := rfl
    rw [hads] at att
    have hC6 : [(f0, fx0), (f1, fx1), (f2, fx2), (f3, fx3), (f4, fx4), (f5, fx5)].length = 6 := rfl
    generalize [(f0, fx0), (f1, fx1), (f2, fx2), (f3, fx3), (f4, fx4), (f5, fx5)] = C at spC hlen att hC6
    refine ⟨_, rfl, ⟨_, t_of (spC.ext _ _ att)⟩, ?_⟩
    refine for_it (walk_tup (xs := C.map fun e => V.ref e.1)) (fun j σ H' => ∃ z17, σ = [some (.ref a), some (.ref row), some (.int (0 + ((i : Nat) : Int))), some (.ref la), some (.ref wa), some (.ref Am.m), some (.ref si), z7, some (.ref si2), some (.ref ka), some (.ref D2), y11, some (.ref D3), y13, some (.ref D3'), some (.ref si3), some (.ref s6), z17] ∧ Sep Kt H' (apC C j ++ (L1f ++ ((row, rowO a i5 gg5 x5) :: (L2 ++ W2))))) ⟨_, rfl, spC⟩ ?_ ?_ ?_
    · rintro j σ H' _ ⟨z17, _, sp⟩
      exact t_of (sp.ext _ _ att)
    · rintro j v σ H1' H2' hj ⟨z17, rfl, sp⟩ ⟨rfl, e2⟩
      rw [List.getElem?_map] at e2
      obtain ⟨e, he, rfl⟩ := Option.map_eq_some_iff.mp e2
      rw [apC_at he, List.append_assoc, List.cons_append] at sp
      have hc := sp.at_ (a := e.1) (o := .lst e.2) (List.mem_append_right _ List.mem_cons_self)
      refine ⟨_, rfl, .inl ⟨rfl, _, .inl (.inl hc)⟩, _, _, _, rfl, rfl, hc, sml (m := 30) (by have := hlen e (List.mem_of_getElem? he); omega) (by decide), ?_⟩
      refine ⟨_, rfl, ?_⟩
      rw [apC_next he, List.append_assoc, List.cons_append]
      exact sp.put
    rintro σ H92 ⟨z17, rfl, spE⟩
    have spE := Sep.weakR spE
    have owA := o1t.own spE
    have owB := o2t.own (spE.perm (permZ _ _ _ _))
    refine ⟨_, rfl, _, rfl, si, si2, _, _, _, _, rfl, rfl, owA.fr, owB.fr, ?_⟩
    refine ⟨A, P, S, Kt, b2, p2, si, dx, _, _, A2, P2, S, Kt, b2, p2, si2, dx2, _, _, rfl, owA, owB, by omega, by omega, by omega, by omega, good_nm ok gd2, good_nm ok gd2, fun H93 g93 => ?_⟩
    rw [tk2]
    refine ⟨true, rfl, true, rfl, iteF ?_⟩
    have gF := Same.tr g2 (Same.tr g4 (Same.tr g47 (Same.tr g734 (Same.tr g30 gft))))
    refine ⟨_, _, _, _, _, _, _, _, _, _, _, _, _, _, _, _, Kt, rfl, gF, i5, gg5, x5, hi5, hg5, ?_⟩
    exact (Sep.weak (L := [(row, rowO a i5 gg5 x5)]) (M := L1f ++ (L2 ++ W2)) (spE.perm (permY _ _ _))).grow g93
    
end
end Cb

namespace Cb
open PySem PySem.Spec PyProof.Rows L2
theorem facts {P : Program} {w : World} {K : PySem.W.Frag} {h : Heap} {mg : Str → Option Value} {f : Addr} (X : K.In h) (G : h.Ns mainGlobals mg) (hfa : mg ("law" : Str) = some (.ref f)) (c : SaysM exM fn tsM w K) :
    ∃ fd : FuncData, (∀ (s : Shared) (v : Value), BindsTo s fd ⟨[v], []⟩ [("_law_script", v)]) ∧ ∀ base : Heap, K.In base → base.Ns mainGlobals mg → FnOk P w K mg base C8.CX0 13 f fd ["_law_script"] (sp_law K) := by
  have T := txt_of X G c.exok
  obtain ⟨es, nn, D⟩ := c.tab 0
  obtain ⟨_, F_is_integer⟩ := c.def_ 0 (d := D_is_integer) rfl
  obtain ⟨_, F_check_number⟩ := c.def_ 1 (d := D_check_number) rfl
  obtain ⟨_, F_check_flag⟩ := c.def_ 21 (d := D_check_flag) rfl
  obtain ⟨_, F_put_changed⟩ := c.def_ 20 (d := D_put_changed) rfl
  obtain ⟨_, F_Setup_contains⟩ := c.def_ 12 (d := D_Setup_contains) rfl
  obtain ⟨_, F_Setup_getitem⟩ := c.def_ 13 (d := D_Setup_getitem) rfl
  obtain ⟨_, F_Setup_order⟩ := c.def_ 18 (d := D_Setup_order) rfl
  obtain ⟨_, F_Setup_works⟩ := c.def_ 17 (d := D_Setup_works) rfl
  obtain ⟨_, F_Board_check_line⟩ := c.def_ 25 (d := D_Board_check_line) rfl
  obtain ⟨_, F_Board_is_edge⟩ := c.def_ 26 (d := D_Board_is_edge) rfl
  obtain ⟨_, F_Board_ring⟩ := c.def_ 27 (d := D_Board_ring) rfl
  obtain ⟨_, F_Board_quiet⟩ := c.def_ 28 (d := D_Board_quiet) rfl
  obtain ⟨_, F_Board_mask⟩ := c.def_ 29 (d := D_Board_mask) rfl
  obtain ⟨_, F_Board_unmask⟩ := c.def_ 30 (d := D_Board_unmask) rfl
  obtain ⟨_, F_Board_set_flag⟩ := c.def_ 31 (d := D_Board_set_flag) rfl
  obtain ⟨_, F_Board_clear_flag⟩ := c.def_ 32 (d := D_Board_clear_flag) rfl
  obtain ⟨_, F_Board_act⟩ := c.def_ 33 (d := D_Board_act) rfl
  obtain ⟨_, F_Board_begin⟩ := c.def_ 34 (d := D_Board_begin) rfl
  obtain ⟨_, F_Board_end⟩ := c.def_ 35 (d := D_Board_end) rfl
  obtain ⟨_, F_Board_is_up⟩ := c.def_ 36 (d := D_Board_is_up) rfl
  obtain ⟨_, F_Board_is_enabled⟩ := c.def_ 37 (d := D_Board_is_enabled) rfl
  obtain ⟨_, F_Board_is_high⟩ := c.def_ 38 (d := D_Board_is_high) rfl
  obtain ⟨_, F_Board_waits⟩ := c.def_ 39 (d := D_Board_waits) rfl
  obtain ⟨_, F_Board_waiting_lines⟩ := c.def_ 40 (d := D_Board_waiting_lines) rfl
  obtain ⟨_, F_Board_high_lines⟩ := c.def_ 43 (d := D_Board_high_lines) rfl
  obtain ⟨_, F_Board_disabled_lines⟩ := c.def_ 42 (d := D_Board_disabled_lines) rfl
  obtain ⟨_, F_Board_ready_lines⟩ := c.def_ 41 (d := D_Board_ready_lines) rfl
  obtain ⟨_, F_Board_raised_flags⟩ := c.def_ 44 (d := D_Board_raised_flags) rfl
  obtain ⟨_, F_Board_init⟩ := c.def_ 22 (d := D_Board_init) rfl
  obtain ⟨_, F_WorkQueue_rows⟩ := c.def_ 48 (d := D_WorkQueue_rows) rfl
  obtain ⟨_, F_WorkQueue_is_empty⟩ := c.def_ 49 (d := D_WorkQueue_is_empty) rfl
  obtain ⟨_, F_WorkQueue_init⟩ := c.def_ 46 (d := D_WorkQueue_init) rfl
  obtain ⟨_, F_WorkQueue_put⟩ := c.def_ 50 (d := D_WorkQueue_put) rfl
  obtain ⟨_, F_WorkQueue_spend⟩ := c.def_ 51 (d := D_WorkQueue_spend) rfl
  obtain ⟨_, F_Processor_lets_by⟩ := c.def_ 61 (d := D_Processor_lets_by) rfl
  obtain ⟨_, F_Processor_present_step⟩ := c.def_ 62 (d := D_Processor_present_step) rfl
  obtain ⟨_, F_Processor_passes_flag⟩ := c.def_ 63 (d := D_Processor_passes_flag) rfl
  obtain ⟨_, F_Processor_takes_no_tick⟩ := c.def_ 64 (d := D_Processor_takes_no_tick) rfl
  obtain ⟨_, F_Processor_act⟩ := c.def_ 65 (d := D_Processor_act) rfl
  obtain ⟨_, F_Processor_go_through⟩ := c.def_ 66 (d := D_Processor_go_through) rfl
  obtain ⟨_, F_Processor_spend_beside_calls⟩ := c.def_ 68 (d := D_Processor_spend_beside_calls) rfl
  obtain ⟨_, F_Processor_spend⟩ := c.def_ 67 (d := D_Processor_spend) rfl
  obtain ⟨_, F_Processor_go_on⟩ := c.def_ 55 (d := D_Processor_go_on) rfl
  obtain ⟨_, F_Processor_take⟩ := c.def_ 54 (d := D_Processor_take) rfl
  obtain ⟨_, F_Processor_spent_ticks⟩ := c.def_ 59 (d := D_Processor_spent_ticks) rfl
  obtain ⟨_, F_Processor_bar_now⟩ := c.def_ 56 (d := D_Processor_bar_now) rfl
  obtain ⟨_, F_Processor_work_rows⟩ := c.def_ 58 (d := D_Processor_work_rows) rfl
  obtain ⟨_, F_Processor_call_rows⟩ := c.def_ 57 (d := D_Processor_call_rows) rfl
  obtain ⟨_, F_Processor_init⟩ := c.def_ 52 (d := D_Processor_init) rfl
  obtain ⟨_, F_Single_ring⟩ := c.def_ 74 (d := D_Single_ring) rfl
  obtain ⟨_, F_Single_mask⟩ := c.def_ 76 (d := D_Single_mask) rfl
  obtain ⟨_, F_Single_unmask⟩ := c.def_ 77 (d := D_Single_unmask) rfl
  obtain ⟨_, F_Single_quiet⟩ := c.def_ 75 (d := D_Single_quiet) rfl
  obtain ⟨_, F_Single_set_flag⟩ := c.def_ 78 (d := D_Single_set_flag) rfl
  obtain ⟨_, F_Single_clear_flag⟩ := c.def_ 79 (d := D_Single_clear_flag) rfl
  obtain ⟨_, F_Single_waiting⟩ := c.def_ 82 (d := D_Single_waiting) rfl
  obtain ⟨_, F_Single_masked⟩ := c.def_ 87 (d := D_Single_masked) rfl
  obtain ⟨_, F_Single_highs⟩ := c.def_ 88 (d := D_Single_highs) rfl
  obtain ⟨_, F_Single_flags_up⟩ := c.def_ 85 (d := D_Single_flags_up) rfl
  obtain ⟨_, F_Single_calls⟩ := c.def_ 83 (d := D_Single_calls) rfl
  obtain ⟨_, F_Single_queue⟩ := c.def_ 84 (d := D_Single_queue) rfl
  obtain ⟨_, F_Single_spent⟩ := c.def_ 89 (d := D_Single_spent) rfl
  obtain ⟨_, F_Single_bar⟩ := c.def_ 86 (d := D_Single_bar) rfl
  obtain ⟨_, F_Single_now⟩ := c.def_ 81 (d := D_Single_now) rfl
  obtain ⟨_, F_Single_tick⟩ := c.def_ 80 (d := D_Single_tick) rfl
  obtain ⟨_, F_Single_init⟩ := c.def_ 69 (d := D_Single_init) rfl
  obtain ⟨_, F_is_letters⟩ := c.def_ 2 (d := D_is_letters) rfl
  obtain ⟨_, F_is_name⟩ := c.def_ 3 (d := D_is_name) rfl
  obtain ⟨_, F_is_line⟩ := c.def_ 4 (d := D_is_line) rfl
  obtain ⟨_, F_is_work⟩ := c.def_ 5 (d := D_is_work) rfl
  obtain ⟨_, F_is_step⟩ := c.def_ 6 (d := D_is_step) rfl
  obtain ⟨_, F_spoilt_named⟩ := c.def_ 7 (d := D_spoilt_named) rfl
  obtain ⟨_, F_spoilt_line⟩ := c.def_ 8 (d := D_spoilt_line) rfl
  obtain ⟨_, F_spoilt_work⟩ := c.def_ 9 (d := D_spoilt_work) rfl
  obtain ⟨_, F_spoilt_handler⟩ := c.def_ 10 (d := D_spoilt_handler) rfl
  obtain ⟨_, F_check_setup⟩ := c.def_ 19 (d := D_check_setup) rfl
  obtain ⟨_, F_Setup_init⟩ := c.def_ 11 (d := D_Setup_init) rfl
  obtain ⟨_, F_law_taken⟩ := c.def_ 90 (d := D_law_taken) rfl
  obtain ⟨_, F_law_mixed⟩ := c.def_ 92 (d := D_law_mixed) rfl
  obtain ⟨_, F_law_step⟩ := c.def_ 93 (d := D_law_step) rfl
  obtain ⟨_, F_law_setup⟩ := c.def_ 94 (d := D_law_setup) rfl
  obtain ⟨_, F_law_new⟩ := c.def_ 95 (d := D_law_new) rfl
  obtain ⟨_, F_law_alike⟩ := c.def_ 91 (d := D_law_alike) rfl
  obtain ⟨_, F_law_done⟩ := c.def_ 98 (d := D_law_done) rfl
  obtain ⟨_, F_law_seen⟩ := c.def_ 96 (d := D_law_seen) rfl
  obtain ⟨_, F_law_deed⟩ := c.def_ 97 (d := D_law_deed) rfl
  obtain ⟨_, F_Board_board_state⟩ := c.def_ 45 (d := D_Board_board_state) rfl
  obtain ⟨_, F_Processor_processor_state⟩ := c.def_ 60 (d := D_Processor_processor_state) rfl
  obtain ⟨_, F_Single_state⟩ := c.def_ 72 (d := D_Single_state) rfl
  obtain ⟨_, F_Single_told⟩ := c.def_ 71 (d := D_Single_told) rfl
  obtain ⟨_, F_Setup_eq⟩ := c.def_ 14 (d := D_Setup_eq) rfl
  obtain ⟨_, F_Single_eq⟩ := c.def_ 70 (d := D_Single_eq) rfl
  obtain ⟨_, F_Setup_sub⟩ := c.def_ 15 (d := D_Setup_sub) rfl
  obtain ⟨_, F_Board_take_over⟩ := c.def_ 24 (d := D_Board_take_over) rfl
  obtain ⟨_, F_Board_copied_board⟩ := c.def_ 23 (d := D_Board_copied_board) rfl
  obtain ⟨_, F_WorkQueue_copy_rows⟩ := c.def_ 47 (d := D_WorkQueue_copy_rows) rfl
  obtain ⟨_, F_Processor_copied_onto⟩ := c.def_ 53 (d := D_Processor_copied_onto) rfl
  obtain ⟨_, F_Single_copied⟩ := c.def_ 73 (d := D_Single_copied) rfl
  obtain ⟨_, F_law⟩ := c.def_ 99 (d := D_law) rfl
  have e := hfa.symm.trans T.f_law
  cases e
  have b := FunD.bindsA (ps := ["_law_script"]) F_law fun _ _ _ _ _ _ us hl => match us, hl with | [_], _ => rfl
  refine ⟨_, fun s v => b s [v] rfl, fun base _ _ => ?_⟩
  have c_is_integer := ok_is_integer (P := P) (w := w) (base := base) T F_is_integer 
  have c_check_number := ok_check_number (P := P) (w := w) (base := base) T F_check_number c_is_integer
  have c_check_flag := ok_check_flag (P := P) (w := w) (base := base) T F_check_flag c_is_integer
  have c_put_changed := ok_put_changed (P := P) (w := w) (base := base) T F_put_changed 
  have c_Setup_contains := ok_Setup_contains (P := P) (w := w) (base := base) T F_Setup_contains 
  have c_Setup_getitem := ok_Setup_getitem (P := P) (w := w) (base := base) T F_Setup_getitem c_Setup_contains
  have c_Setup_order := ok_Setup_order (P := P) (w := w) (base := base) T F_Setup_order 
  have c_Setup_works := ok_Setup_works (P := P) (w := w) (base := base) T F_Setup_works 
  have cP_put_changed := okP_put_changed (P := P) (w := w) (base := base) T F_put_changed 
  have c_Board_check_line := ok_Board_check_line (P := P) (w := w) (base := base) T F_Board_check_line c_Setup_contains
  have c_Board_is_edge := ok_Board_is_edge (P := P) (w := w) (base := base) T F_Board_is_edge c_Setup_getitem
  have c_Board_ring := ok_Board_ring (P := P) (w := w) (base := base) T F_Board_ring c_Board_check_line c_put_changed
  have c_Board_quiet := ok_Board_quiet (P := P) (w := w) (base := base) T F_Board_quiet c_Board_check_line c_Board_is_edge c_put_changed
  have c_Board_mask := ok_Board_mask (P := P) (w := w) (base := base) T F_Board_mask c_Board_check_line c_put_changed
  have c_Board_unmask := ok_Board_unmask (P := P) (w := w) (base := base) T F_Board_unmask c_Board_check_line c_put_changed
  have c_Board_set_flag := ok_Board_set_flag (P := P) (w := w) (base := base) T F_Board_set_flag c_check_flag cP_put_changed
  have c_Board_clear_flag := ok_Board_clear_flag (P := P) (w := w) (base := base) T F_Board_clear_flag c_check_flag cP_put_changed
  have c_Board_act := ok_Board_act (P := P) (w := w) (base := base) T F_Board_act c_Board_ring c_Board_quiet c_Board_mask c_Board_unmask c_Board_set_flag c_Board_clear_flag
  have c_Board_begin := ok_Board_begin (P := P) (w := w) (base := base) T F_Board_begin c_Board_is_edge
  have c_Board_end := ok_Board_end (P := P) (w := w) (base := base) T F_Board_end 
  have c_Board_is_up := ok_Board_is_up (P := P) (w := w) (base := base) T F_Board_is_up 
  have c_Board_is_enabled := ok_Board_is_enabled (P := P) (w := w) (base := base) T F_Board_is_enabled 
  have c_Board_is_high := ok_Board_is_high (P := P) (w := w) (base := base) T F_Board_is_high c_Board_is_edge
  have c_Board_waits := ok_Board_waits (P := P) (w := w) (base := base) T F_Board_waits c_Board_is_edge
  have c_Board_waiting_lines := ok_Board_waiting_lines (P := P) (w := w) (base := base) T F_Board_waiting_lines c_Setup_order c_Board_waits
  have c_Board_high_lines := ok_Board_high_lines (P := P) (w := w) (base := base) T F_Board_high_lines c_Setup_order c_Board_is_high
  have c_Board_disabled_lines := ok_Board_disabled_lines (P := P) (w := w) (base := base) T F_Board_disabled_lines c_Setup_order
  have c_Board_ready_lines := ok_Board_ready_lines (P := P) (w := w) (base := base) T F_Board_ready_lines c_Board_waiting_lines c_Board_is_enabled
  have c_Board_raised_flags := ok_Board_raised_flags (P := P) (w := w) (base := base) T F_Board_raised_flags 
  have c_Board_init := ok_Board_init (P := P) (w := w) (base := base) T F_Board_init c_Setup_order
  have c_WorkQueue_rows := ok_WorkQueue_rows (P := P) (w := w) (base := base) T F_WorkQueue_rows 
  have c_WorkQueue_is_empty := ok_WorkQueue_is_empty (P := P) (w := w) (base := base) T F_WorkQueue_is_empty 
  have c_WorkQueue_init := ok_WorkQueue_init (P := P) (w := w) (base := base) T F_WorkQueue_init 
  have c_WorkQueue_put := ok_WorkQueue_put (P := P) (w := w) (base := base) T F_WorkQueue_put 
  have c_WorkQueue_put1 := ok_WorkQueue_put1 (P := P) (w := w) (base := base) T F_WorkQueue_put 
  have c_WorkQueue_spend := ok_WorkQueue_spend (P := P) (w := w) (base := base) T F_WorkQueue_spend 
  have c_Processor_lets_by := ok_Processor_lets_by (P := P) (w := w) (base := base) T F_Processor_lets_by c_Setup_getitem
  have c_Processor_present_step := ok_Processor_present_step (P := P) (w := w) (base := base) T F_Processor_present_step c_Setup_getitem
  have c_Processor_passes_flag := ok_Processor_passes_flag (P := P) (w := w) (base := base) T F_Processor_passes_flag c_Processor_present_step c_Board_is_up
  have c_Processor_takes_no_tick := ok_Processor_takes_no_tick (P := P) (w := w) (base := base) T F_Processor_takes_no_tick c_Board_is_up
  have c_Processor_act := ok_Processor_act (P := P) (w := w) (base := base) T F_Processor_act c_WorkQueue_put1 c_Board_act
  have c_Processor_go_through := ok_Processor_go_through (P := P) (w := w) (base := base) T F_Processor_go_through c_Setup_getitem c_Processor_takes_no_tick c_Processor_act c_Board_end
  have c_Processor_spend_beside_calls := ok_Processor_spend_beside_calls (P := P) (w := w) (base := base) T F_Processor_spend_beside_calls c_WorkQueue_is_empty c_WorkQueue_spend
  have c_Processor_spend := ok_Processor_spend (P := P) (w := w) (base := base) T F_Processor_spend c_Processor_spend_beside_calls c_Processor_present_step c_Processor_go_through
  have c_Processor_go_on := ok_Processor_go_on (P := P) (w := w) (base := base) T F_Processor_go_on c_Processor_passes_flag c_Processor_go_through c_Processor_spend
  have c_Processor_take := ok_Processor_take (P := P) (w := w) (base := base) T F_Processor_take c_Processor_lets_by c_Board_begin c_Processor_go_through
  have c_Processor_spent_ticks := ok_Processor_spent_ticks (P := P) (w := w) (base := base) T F_Processor_spent_ticks 
  have c_Processor_bar_now := ok_Processor_bar_now (P := P) (w := w) (base := base) T F_Processor_bar_now 
  have c_Processor_work_rows := ok_Processor_work_rows (P := P) (w := w) (base := base) T F_Processor_work_rows c_WorkQueue_rows
  have c_Processor_call_rows := ok_Processor_call_rows (P := P) (w := w) (base := base) T F_Processor_call_rows 
  have c_Processor_init := ok_Processor_init (P := P) (w := w) (base := base) T F_Processor_init c_Setup_works c_WorkQueue_init
  have c_Single_ring := ok_Single_ring (P := P) (w := w) (base := base) T F_Single_ring c_Board_ring
  have c_Single_mask := ok_Single_mask (P := P) (w := w) (base := base) T F_Single_mask c_Board_mask
  have c_Single_unmask := ok_Single_unmask (P := P) (w := w) (base := base) T F_Single_unmask c_Board_unmask
  have c_Single_quiet := ok_Single_quiet (P := P) (w := w) (base := base) T F_Single_quiet c_Board_quiet
  have c_Single_set_flag := ok_Single_set_flag (P := P) (w := w) (base := base) T F_Single_set_flag c_Board_set_flag
  have c_Single_clear_flag := ok_Single_clear_flag (P := P) (w := w) (base := base) T F_Single_clear_flag c_Board_clear_flag
  have c_Single_waiting := ok_Single_waiting (P := P) (w := w) (base := base) T F_Single_waiting c_Board_waiting_lines
  have c_Single_masked := ok_Single_masked (P := P) (w := w) (base := base) T F_Single_masked c_Board_disabled_lines
  have c_Single_highs := ok_Single_highs (P := P) (w := w) (base := base) T F_Single_highs c_Board_high_lines
  have c_Single_flags_up := ok_Single_flags_up (P := P) (w := w) (base := base) T F_Single_flags_up c_Board_raised_flags
  have c_Single_calls := ok_Single_calls (P := P) (w := w) (base := base) T F_Single_calls c_Processor_call_rows
  have c_Single_queue := ok_Single_queue (P := P) (w := w) (base := base) T F_Single_queue c_Processor_work_rows
  have c_Single_spent := ok_Single_spent (P := P) (w := w) (base := base) T F_Single_spent c_Processor_spent_ticks
  have c_Single_bar := ok_Single_bar (P := P) (w := w) (base := base) T F_Single_bar c_Processor_bar_now
  have c_Single_now := ok_Single_now (P := P) (w := w) (base := base) T F_Single_now 
  have c_Single_tick := ok_Single_tick (P := P) (w := w) (base := base) T F_Single_tick c_Processor_take c_Board_ready_lines c_Processor_go_on
  have c_Single_init := ok_Single_init (P := P) (w := w) (base := base) T F_Single_init c_Board_init c_Processor_init
  have c_is_letters := ok_is_letters (P := P) (w := w) (base := base) T F_is_letters 
  have c_is_name := ok_is_name (P := P) (w := w) (base := base) T F_is_name c_is_letters
  have c_is_line := ok_is_line (P := P) (w := w) (base := base) T F_is_line c_is_integer c_is_name
  have c_is_work := ok_is_work (P := P) (w := w) (base := base) T F_is_work c_is_integer c_is_name
  have c_is_step := ok_is_step (P := P) (w := w) (base := base) T F_is_step c_is_integer D
  have c_spoilt_named := ok_spoilt_named (P := P) (w := w) (base := base) T F_spoilt_named 
  have c_spoilt_line := ok_spoilt_line (P := P) (w := w) (base := base) T F_spoilt_line c_is_line c_spoilt_named
  have c_spoilt_work := ok_spoilt_work (P := P) (w := w) (base := base) T F_spoilt_work c_is_work c_spoilt_named
  have c_spoilt_handler := ok_spoilt_handler (P := P) (w := w) (base := base) T F_spoilt_handler c_is_step
  have c_check_setup := ok_check_setup (P := P) (w := w) (base := base) T F_check_setup c_spoilt_line c_spoilt_work c_spoilt_handler
  have c_Setup_init := ok_Setup_init (P := P) (w := w) (base := base) T F_Setup_init c_check_setup
  have c_Setup_init1 := ok_Setup_init1 (P := P) (w := w) (base := base) T F_Setup_init c_check_setup
  have c_law_taken := ok_law_taken (P := P) (w := w) (base := base) T F_law_taken 
  have c_law_mixed := ok_law_mixed (P := P) (w := w) (base := base) T F_law_mixed c_law_taken
  have c_law_step := ok_law_step (P := P) (w := w) (base := base) T F_law_step c_law_taken
  have c_law_setup := ok_law_setup (P := P) (w := w) (base := base) T F_law_setup c_law_taken c_law_mixed c_law_step
  have c_law_new := ok_law_new (P := P) (w := w) (base := base) T F_law_new 
  have c_law_alike := ok_law_alike (P := P) (w := w) (base := base) T F_law_alike 
  have c_law_done := ok_law_done (P := P) (w := w) (base := base) T F_law_done c_Single_ring c_Single_quiet c_Single_mask c_Single_unmask c_Single_set_flag c_Single_clear_flag
  have c_law_seen := ok_law_seen (P := P) (w := w) (base := base) T F_law_seen c_Single_now c_Single_waiting c_Single_calls c_Single_queue c_Single_flags_up c_Single_bar c_Single_masked c_Single_highs c_Single_spent
  have c_law_deed := ok_law_deed (P := P) (w := w) (base := base) T F_law_deed c_law_taken
  have c_Board_board_state := ok_Board_board_state (P := P) (w := w) (base := base) T F_Board_board_state c_Setup_order c_Board_disabled_lines c_Board_raised_flags
  have c_Processor_processor_state := ok_Processor_processor_state (P := P) (w := w) (base := base) T F_Processor_processor_state c_WorkQueue_rows
  have cP_Processor_spent_ticks := okP_Processor_spent_ticks (P := P) (w := w) (base := base) T F_Processor_spent_ticks 
  have c_Single_state := ok_Single_state (P := P) (w := w) (base := base) T F_Single_state c_Board_board_state c_Processor_processor_state
  have c_Single_told := ok_Single_told (P := P) (w := w) (base := base) T F_Single_told c_Single_state cP_Processor_spent_ticks
  have c_Setup_eq := ok_Setup_eq (P := P) (w := w) (base := base) T F_Setup_eq 
  have c_Single_eq := ok_Single_eq (P := P) (w := w) (base := base) T F_Single_eq c_Setup_eq c_Single_told
  have c_Setup_sub := ok_Setup_sub (P := P) (w := w) (base := base) T F_Setup_sub c_Setup_contains c_Setup_init
  have c_Board_take_over := ok_Board_take_over (P := P) (w := w) (base := base) T F_Board_take_over 
  have c_Board_copied_board := ok_Board_copied_board (P := P) (w := w) (base := base) T F_Board_copied_board c_Board_init c_Board_take_over
  have c_WorkQueue_copy_rows := ok_WorkQueue_copy_rows (P := P) (w := w) (base := base) T F_WorkQueue_copy_rows c_WorkQueue_rows
  have c_Processor_copied_onto := ok_Processor_copied_onto (P := P) (w := w) (base := base) T F_Processor_copied_onto c_Processor_init c_WorkQueue_copy_rows
  have c_Single_copied := ok_Single_copied (P := P) (w := w) (base := base) T F_Single_copied c_Single_init c_Board_copied_board c_Processor_copied_onto
  have cP_Single_eq := okP_Single_eq (P := P) (w := w) (base := base) T F_Single_eq c_Setup_eq c_Single_told
  have cP_Processor_work_rows := okP_Processor_work_rows (P := P) (w := w) (base := base) T F_Processor_work_rows c_WorkQueue_rows
  have cP_Processor_call_rows := okP_Processor_call_rows (P := P) (w := w) (base := base) T F_Processor_call_rows 
  have cP_Single_waiting := okP_Single_waiting (P := P) (w := w) (base := base) T F_Single_waiting c_Board_waiting_lines
  have cP_Single_masked := okP_Single_masked (P := P) (w := w) (base := base) T F_Single_masked c_Board_disabled_lines
  have cP_Single_highs := okP_Single_highs (P := P) (w := w) (base := base) T F_Single_highs c_Board_high_lines
  have cP_Single_flags_up := okP_Single_flags_up (P := P) (w := w) (base := base) T F_Single_flags_up c_Board_raised_flags
  have cP_Single_calls := okP_Single_calls (P := P) (w := w) (base := base) T F_Single_calls cP_Processor_call_rows
  have cP_Single_queue := okP_Single_queue (P := P) (w := w) (base := base) T F_Single_queue cP_Processor_work_rows
  have cP_law_alike := okP_law_alike (P := P) (w := w) (base := base) T F_law_alike 
  exact ok_law T F_law c_law_taken c_law_setup c_law_new c_Setup_init c_Single_init c_law_deed c_law_done c_law_seen c_Single_tick c_Single_copied cP_law_alike c_Single_eq cP_Single_eq cP_Single_waiting cP_Single_calls cP_Single_queue cP_Single_flags_up cP_Single_masked cP_Single_highs
end Cb
open PySem PySem.W PySem.Calls PyProof.Rows
theorem PySem.Challenge.cw_callbells_k13_copies_and_equality_holds : PySem.Challenge.rw_callbells_k13_copies_and_equality.Holds := by
  w_on; o_law
  refine HandSHeadRun.head_any (r := OpenLaw.row PySem.Challenge.rw_callbells_k13_copies_and_equality) (q := view (OpenLaw.row PySem.Challenge.rw_callbells_k13_copies_and_equality).prog [54]) (H := Cb.hk) (ob := Cb.ob) (M := 30000) (loose := Cb.nms) (d := HandSHeadRun.topDef (OpenLaw.row PySem.Challenge.rw_callbells_k13_copies_and_equality).prog 54) (kwd := []) Cb.ob_eq
    (by kernel_rfl) (fun s => by kernel_rfl) Cb.run (by kernel_rfl) (by kernel_rfl) (by kernel_rfl) (by rfl) (by first | assumption | decide +kernel) (by decide +kernel) ⟨rfl, rfl, rfl, rfl, rfl, by decide +kernel⟩ ?hw ?hc
  case hw => w_witness2
  case hc =>
    refine L2.walk_ofE (l := PySem.Challenge.rw_callbells_k13_copies_and_equality) (n := 63) (k := 13) (x := "_law_script") (CX := C8.CX0) rfl (by decide) (by kernel_rfl) ⟨rfl, by decide, by decide⟩ ?F (fun _ _ _ _ z => z)
    intro w mg fa h Y G hmg0
    obtain ⟨K, KX, c⟩ := Y
    have hmg : mg ("law" : PySem.Str) = some (.ref fa) := by
      have e : (HandSHeadRun.topDef (OpenLaw.row PySem.Challenge.rw_callbells_k13_copies_and_equality).prog 54).name = ("law" : PySem.Str) := by kernel_rfl
      rw [← e]
      exact hmg0
    obtain ⟨fd, hb, hF⟩ := Cb.facts (P := (PySem.Challenge.rw_callbells_k13_copies_and_equality).prog) (w := w) KX G hmg c
    exact ⟨K, fd, Cb.sp_law K, KX, hb, fun H a ns hl _ hS => ⟨a, ns, rfl, hS, fun _ => rfl⟩, hF⟩

