import PyProof.Rows.All
import Wide.All
import OpenK.AllK
import Wide.FinOn
import PySem.Challenge.RW_callbells_k35_whole_true_rings_are_in_ra
import KE.KStateDown
import KE.GoesEnum
import HandS.ForExc
import HandS.ForMost
import HandS.Defaults
import HandS.More
import HandS.Star
import HandS.IsInst
import HandS.DictComp
import HandS.Property
import HandS.ClsMeth
import HandS.Walk
import HandS.Sort
import HandS.SortOrd
import HandS.SortRule
import HandS.Codes
import HandS.Head0
import HandS.Head1
import HandS.Head2
import HandS.HeadEnd
import HandS.HeadHook1
import HandS.HeadHook2
import HandS.HeadHook3
import HandS.HeadNt
import HandS.StrMore
import HandS.Deep
import HandS.DeepEq
import HandS.Flow
import HandS.TupAny
import HandS.Conv
import HandS.Zip
import HandS.Dict
import HandS.Iter
set_option Elab.async false
set_option linter.all false
set_option maxRecDepth 100000
set_option maxHeartbeats 0
/-! own rules: in and [] by an own class, enumerate over a tuple, an item for an augmented store -/
namespace Cb
open PySem PySem.Spec PyProof.Rows L2
section
variable {X : Cx} {CX : CXT} {k : Nat} {C f : Addr} {fd : FuncData} {ps : List Str} {sp : Sp} {E : XK}

/-- the promise of a method at an object, called by an operator -/
def rOwnB (C : Addr) (sp : Sp) (E : XK) (g : Bool → Bool) : R2 := fun x y H Q =>
  ∃ a dx fs, y = .ref a ∧ H a = some (.ins C dx fs) ∧ sp [.ref a, x] H (fun v H' => ∃ b, v = .bl b ∧ Q (.bl (g b)) H') E
def rOwnI (C : Addr) (sp : Sp) (E : XK) : R2 := fun x y H Q => ∃ a dx fs, x = .ref a ∧ H a = some (.ins C dx fs) ∧ sp [.ref a, y] H Q E

theorem op_inOwn (F : FnOk X.prog X.w X.K X.mg X.base CX k f fd ps sp) (hr : Room k X.A) (hb : Binds X.K fd ps []) (hx : Passes CX X E)
    (hs : PySem.W.findIn X.K (.ref C) "__contains__" = some (some (.ref f))) (hf : PySem.W.isFn X.K (.ref f) = true) : OpR X (compareOp .In) (rOwnB C sp E id) := by
  intro pins s σ H x y v u Q I rx ry h
  obtain ⟨a, dx, fs, rfl, ha, hq⟩ := h
  cases ry
  obtain ⟨_, J0, _⟩ := ins_get I.hok ha
  obtain ⟨_, J, _⟩ := J0.look
  obtain ⟨m, hF⟩ := I.fr
  refine PySem.W.in_K hF I.ok.mod.kin J hs hf ?_
  refine thn (run_fn (us := [.ref a, v]) (vs := [.ref a, x]) F hr hb (.nil : Vals [] []) hx I (.cons rfl (.cons rx .nil)) hq) fun w s1 z => ?_
  obtain ⟨r, H1, I1, rw1, b, rfl, q⟩ := z
  cases rw1
  exact wpAny_truthy_bool ⟨.bl b, H1, I1, rfl, q⟩
theorem op_ninOwn (F : FnOk X.prog X.w X.K X.mg X.base CX k f fd ps sp) (hr : Room k X.A) (hb : Binds X.K fd ps []) (hx : Passes CX X E)
    (hs : PySem.W.findIn X.K (.ref C) "__contains__" = some (some (.ref f))) (hf : PySem.W.isFn X.K (.ref f) = true) : OpR X (compareOp .NotIn) (rOwnB C sp E not) := by
  intro pins s σ H x y v u Q I rx ry h
  obtain ⟨a, dx, fs, rfl, ha, hq⟩ := h
  cases ry
  obtain ⟨_, J0, _⟩ := ins_get I.hok ha
  obtain ⟨_, J, _⟩ := J0.look
  obtain ⟨m, hF⟩ := I.fr
  refine PySem.W.notIn_K hF I.ok.mod.kin J hs hf ?_
  refine thn (run_fn (us := [.ref a, v]) (vs := [.ref a, x]) F hr hb (.nil : Vals [] []) hx I (.cons rfl (.cons rx .nil)) hq) fun w s1 z => ?_
  obtain ⟨r, H1, I1, rw1, b, rfl, q⟩ := z
  cases rw1
  exact wpAny_truthy_bool ⟨.bl (!b), H1, I1, rfl, q⟩
theorem get_own (F : FnOk X.prog X.w X.K X.mg X.base CX k f fd ps sp) (hr : Room k X.A) (hb : Binds X.K fd ps []) (hx : Passes CX X E) (hq0 : PySem.W.noSeq X.K C = true)
    (hs : PySem.W.findIn X.K (.ref C) "__getitem__" = some (some (.ref f))) (hf : PySem.W.isFn X.K (.ref f) = true) : PGet X (rOwnI C sp E) := by
  intro pins s σ H x y v u Q I rx ry h
  obtain ⟨a, dx, fs, rfl, ha, hq⟩ := h
  cases rx
  obtain ⟨_, J0, _⟩ := ins_get I.hok ha
  obtain ⟨_, J, _⟩ := J0.look
  obtain ⟨m, hF⟩ := I.fr
  refine PySem.W.getItem_K hF I.ok.mod.kin J hq0 hs hf ?_
  exact run_fn (us := [.ref a, u]) (vs := [.ref a, y]) F hr hb (.nil : Vals [] []) hx I (.cons rfl (.cons ry .nil)) hq

theorem pe_ixOwn {a b : Expr} {ta tb : TE} {pos : Pos} (F : FnOk X.prog X.w X.K X.mg X.base CX k f fd ps sp) (hr : Room (k + 1) X.A) (hb : Binds X.K fd ps []) (hx : Passes CX X E)
    (hs : PySem.W.findIn X.K (.ref C) "__getitem__" = some (some (.ref f))) (hf : PySem.W.isFn X.K (.ref f) = true) (hfn : PySem.W.fnIn X.K f = true) (ha : PE X a ta) (hi : PE X b tb)
    (hsl : ∀ o i, subscripted b true o i = runValue (.builtin "lifetime.subscript" ⟨[o, i], []⟩) := by intro _ _; rfl) : PE X (.Subscript a b pos) (tOp (rOwnI C sp E) ta tb) := by
  refine ⟨fun pins s0 σ H0 Q I0 h => ?_⟩
  refine Subscript_ (binT ha hi I0 h fun v u s x y H I rx ry hq1 => ?_)
  obtain ⟨a, dx, fs, rfl, hA, hq⟩ := hq1
  cases rx
  obtain ⟨_, J0, _⟩ := ins_get I.hok hA
  obtain ⟨_, J, _⟩ := J0.look
  obtain ⟨m, hF⟩ := I.fr
  refine PySem.W.sub_K hF I.ok.mod.kin J hs hfn hf ?_ (hsl _ _)
  have r2 : Vals [V.ref a, y] [Value.ref a, u] := .cons rfl (.cons ry .nil)
  have hl : ([Value.ref a, u] : List Value).length = ps.length := F.len _ _ _ _ hq
  have bt := hb s [Value.ref a, u] I.kIn (by simpa using hl)
  rw [List.append_nil] at bt
  refine wpAny_call (codeAny_mono (F.run X.A.in1 X.stack s H ⟨[.ref a, u], []⟩ _ _ Q E hr.in1 I.env0.in1 bt r2 hq) fun r s' z => ?_)
  cases r with
  | error e => exact hx pins σ H s e s' I z
  | ok fl => cases fl with
    | ret w => exact I.after z
    | _ => exact False.elim z
end
end Cb

namespace Cb
open PySem PySem.Spec PyProof.Rows L2
open Sem (wp)
/-! enumerate over a tuple -/
abbrev itO (t : Addr) : Obj := { cls := .type "tuple_iterator", data := .fields #[.ref t, .int 0 0] }
abbrev enO (i : Addr) : Obj := { cls := .type "enumerate", data := .fields #[.none, .bool false, .ref i, rawInt 0, .none, .none] }
theorem newT (t : Addr) (its : Array Value) :
    Meets (Builtin.«enumerate.__new__» ⟨[.type "enumerate", .ref t], []⟩) (fun _ R s => s.heap.IsTuple t its ∧ R (.ok (.ret (.ref (s.heap.push (itO t)).objs.size)))
        { s with heap := (s.heap.push (itO t)).push (enO s.heap.objs.size) }) := by
  refine .of_wp fun prog w A R s h => ?_
  obtain ⟨hp, g, d, tk, os⟩ := s
  obtain ⟨h1, h⟩ := h
  have sub0 := sub_enumerate
  have q1 : ∀ {A' : Around} {E : Value → Shared → Prop} {Q : Value → Shared → Prop}, Q (.ref hp.objs.size) ⟨hp.push (itO t), g, d, tk, os⟩ → wpAny (model prog w) A' (pyIter (.ref t)) Q E ⟨hp, g, d, tk, os⟩ :=
    fun q => (begins_tuple t its).iter prog w _ _ ⟨hp, g, d, tk, os⟩ _ h1 q
  wp_walk using q1
  refine wpAny_stack_any fun st => wpAny_pure ?_
  split
  · rename_i c _ _ _ _ _
    cases (c == Value.type "enumerate") <;> (wp_walk using q1; exact ⟨_, rfl, h⟩)
  · wp_walk using q1
    exact ⟨_, rfl, h⟩
section
variable {prog : Program} {w : World} {A : Around} {E : Value → Shared → Prop} {s : Shared}
theorem call_enumT {t : Addr} {its : Array Value} {Q : Value → Shared → Prop} (hL : s.heap.IsTuple t its)
    (h : ∀ h', IsEnum h' (s.heap.objs.size + 1) s.heap.objs.size 0 .none → h'.IsTupleIter s.heap.objs.size t 0 → h'.objs.size = s.heap.objs.size + 2 →
      (∀ b o, s.heap.get? b = some o → h'.get? b = some o) → Q (.ref (s.heap.objs.size + 1)) { s with heap := h' }) :
    wpAny (model prog w) A (call (.type "enumerate") [.ref t]) Q E s := by
  refine callType_new F.called_enumerate (by decide) (F.typeCall_enumerate_1 _) (F.newCall_enumerate_1 _) (fun obj => F.args_object_init_2 obj _) F.entry_enumerate_new (newT t its) ⟨hL, ?_⟩
  have hz : (s.heap.push (itO t)).objs.size = s.heap.objs.size + 1 := Heap.size_push ..
  show _ ∧ _
  rw [hz]
  have he : IsEnum ((s.heap.push (itO t)).push (enO s.heap.objs.size)) (s.heap.objs.size + 1) s.heap.objs.size 0 .none := by
    have z := Heap.get?_push_size (s.heap.push (itO t)) (o := enO s.heap.objs.size) rfl
    rw [hz] at z
    exact z
  exact ⟨⟨_, he, rfl⟩, h _ he ⟨_, Heap.get?_push_of_some _ (Heap.get?_push_size _ rfl), rfl, rfl⟩ (by rw [Heap.size_push, hz]) fun b o x => Heap.get?_push_of_some _ (Heap.get?_push_of_some _ x)⟩
end
/-- the tuple at a, each item in a new pair -/
def Iet (K : PySem.W.Frag) (a : Addr) : It :=
  ⟨fun i H => ∃ (xs : List V) (x : V), SqT K H a xs ∧ xs[i]? = some x,
   fun i H v H' => ∃ T x, v = .ref T ∧ H T = none ∧ H' = upd H T (.tup [.int (i : Nat), x]) ∧ ∀ xs, SqT K H a xs → xs[i]? = some x,
   fun i H => ∃ xs : List V, SqT K H a xs ∧ xs.length ≤ i⟩
theorem turn_enumT {P : Program} {w : World} {K : PySem.W.Frag} {elts : List Expr} {kk : Nat} {tpos : Pos} (a e it : Addr) :
    Turn P w K (.Tuple elts kk tpos) (Iet K a) [e, it] e (fun i h => (∃ old, IsEnum h e it ((i : Nat) : Int) old) ∧ h.IsTupleIter it a i ∧ e ≠ it) where
  mem := by simp
  obj := fun i h st b hb => by
    obtain ⟨⟨old, he⟩, ⟨o, ho, hc, hd⟩, _⟩ := st
    rcases List.mem_cons.mp hb with z | z
    · subst z
      exact ⟨_, he, fun v q => nomatch q⟩
    · rw [List.mem_singleton.mp z]
      exact ⟨o, ho, fun v q => by rw [hd] at q; cases q⟩
  keep := fun i h h' st k => by
    obtain ⟨⟨old, he⟩, hi, hne⟩ := st
    exact ⟨⟨old, k e (by simp) _ he⟩, hi.at fun o q => k it (by simp) o q, hne⟩
  item := by
    intro X hP hw hK hc i pins s σ H E I hf st hg
    subst hP hw hK
    obtain ⟨⟨old, he⟩, hit, hne⟩ := st
    obtain ⟨xs, x, hq, hx⟩ := hg
    obtain ⟨its, rv, p, hz⟩ := I.tuple hq
    have pT : s.heap.IsTuple a its.toArray := p
    obtain ⟨u, hu, ru⟩ := rv.get hx
    have hel : e < s.heap.objs.size := Heap.lt_size he
    have hil : it < s.heap.objs.size := by
      obtain ⟨_, q, _⟩ := hit
      exact Heap.lt_size q
    obtain ⟨ot, hot, hct, _⟩ := id pT
    have nea : e ≠ a := by
      rintro rfl
      rw [he] at hot
      have z := Option.some.inj hot
      rw [← z] at hct
      injection hct with z3
      exact absurd z3 (by decide)
    have nia : a ≠ it := by
      rintro rfl
      obtain ⟨o2, ho2, hc2, _⟩ := id hit
      rw [ho2] at hot
      have z := Option.some.inj hot
      rw [z, hct] at hc2
      injection hc2 with z3
      exact absurd z3 (by decide)
    have D := Draws.tuple (prog := X.prog) (w := X.w) (A := X.A.in1) (by exact I.ok.hd hc) it a nia its.toArray
    have hlt : i < its.toArray.size := by
      have z := (List.getElem?_eq_some_iff.mp hu).1
      simpa using z
    refine wpAny_pyNext_enum_itemD D he ⟨hit, pT⟩ hlt hne (by simp [hne, nea]) fun y h' tk hy ho hit' hT hsz hk => ?_
    have ey : y = u := by
      have z : its[i]? = some y := by simpa using hy
      exact Option.some.inj (z.symm.trans hu)
    subst ey
    refine ⟨_, rfl, wpAny_letOwnedTupleGo_enum (s := { s with heap := h', toks := tk + 1 }) ho fun h'' he' sb => ?_⟩
    have hT2 : h''.get? s.heap.objs.size = some { cls := .type "tuple", data := .seq #[.int i tk, y] } := (sb.2 _ (Nat.ne_of_gt hel)).trans hT
    have new : ObjOk X.prog X.w (upd H s.heap.objs.size (.tup [.int (i : Nat), x])) h'' s.heap.objs.size (.tup [.int (i : Nat), x]) :=
      ⟨by show 2 ≤ sizeLine; decide, [.int i tk, y], .cons ⟨_, rfl⟩ (.cons ru .nil), ⟨_, hT2, rfl, _, rfl⟩⟩
    have I1 : Inv X pins σ (upd H s.heap.objs.size (.tup [.int (i : Nat), x])) { s with heap := h'', toks := tk + 1 } := by
      refine I.turnedNew (ch := [e, it]) (fun b ob hb q => ?_) hf (Nat.le_refl _) new
      have b1 : b ≠ e := fun z => hb (by simp [z])
      have b2 : b ≠ it := fun z => hb (by simp [z])
      exact (sb.2 b b1).trans (hk b ob b1 b2 q)
    refine ⟨.ref s.heap.objs.size, _, I1, rfl, ⟨_, x, rfl, I.hok.fresh (Nat.le_refl _), rfl, fun ys hy => by rw [I.tuple_inj hy hq]; exact hx⟩, ⟨⟨y, ?_⟩, hit'.1.at fun o q => (sb.2 it (Ne.symm hne)).trans q, hne⟩, fun b hb => ?_⟩
    · rw [show ((i + 1 : Nat) : Int) = (i : Int) + 1 by omega]
      exact he'
    · have hb' : b < s.heap.objs.size := by
        rcases List.mem_cons.mp hb with z | z
        · rw [z]
          exact hel
        · rw [List.mem_singleton.mp z]
          exact hil
      rw [upd_ne (Nat.ne_of_lt hb')]
      exact (hf b hb).1
  done := by
    intro X hP hw hK hc i pins s σ H E I hf st hg
    subst hP hw hK
    obtain ⟨⟨old, he⟩, hit, hne⟩ := st
    obtain ⟨xs, hq, hx⟩ := hg
    obtain ⟨its, rv, p, hz⟩ := I.tuple hq
    have pT : s.heap.IsTuple a its.toArray := p
    obtain ⟨f0, f1, f2, f3, f4, f5⟩ := hf it (by simp)
    obtain ⟨ot, hot, hct, _⟩ := id pT
    have nia : a ≠ it := by
      rintro rfl
      obtain ⟨o2, ho2, hc2, _⟩ := id hit
      rw [ho2] at hot
      have z := Option.some.inj hot
      rw [z, hct] at hc2
      injection hc2 with z3
      exact absurd z3 (by decide)
    have hT : s.TypeIs (.ref e) "enumerate" := ⟨_, he, rfl⟩
    have hlen : its.toArray.size ≤ i := by
      have z := rv.length
      simp
      omega
    unfold pyNext
    refine wpAny_bind (wpAny_attempt (wpAny_callSpecial?_slot (name := Str.ofString "__next__") hT F.slot_enumerate_next (wpAny_call_entry F.slot_enumerate_next hT F.entry_enumerate_next ?_ (F.args_enumerate_next_1 _))))
    show wpAny _ _ (field (.ref e) 2 >>= _) _ _ _
    refine wpAny_bind (wpAny_field he rfl (x := .ref it) rfl ?_)
    refine wpAny_bind (wpAny_nextOf_tuple_end (A := X.A.in1) (by exact I.ok.hd hc) hit pT (by simpa using hlen) fun h' x he' hx' => ?_)
    obtain ⟨o, ho, hc'⟩ := hx'
    refine wpAny_bind (wpAny_isInstance (T := "StopIteration") (b := true) ⟨o, ho, hc'⟩ isSubtype_stop ?_)
    exact wpAny_pure ⟨rfl, I.turned (t' := s.toks) (fun b o hb q => he' b o hb q) f0 f1 f3 f4 f5⟩
  self := fun A i s Q E st h => let ⟨⟨_, he⟩, _⟩ := st; wpAny_pyIter_enum he h
def iEnumT (K : PySem.W.Frag) (ta : TA) : TI := fun σ H R => ta σ H fun vs H1 => ∃ a xs, vs = [.ref a] ∧ SqT K H1 a xs ∧ R (Iet K a) H1
theorem pi_enumT {X : Cx} {e : Expr} {ta : TA} {p pos tpos : Pos} {elts : List Expr} {kk : Nat} (hg : Gl X "enumerate") (hm : X.mg "enumerate" = none) (ha : PA X [e] ta)
    (hs : starEach [e] X.env = [(false, eval e X.env)] := by rfl) : PI X (.Tuple elts kk tpos) (.Call (.Name "enumerate" p) [e] [] pos) (iEnumT X.K ta) := by
  refine ⟨fun pins s σ H R I h => ?_⟩
  refine Call_ (ld_blt I hg hm boot_enumerate (PyProof.Rows.callWith_type1 (thn (ha.run pos pins s σ H _ I h) fun us s1 z => ?_) hs rfl))
  obtain ⟨vs, H1, I1, r1, a, xs, ex, hq, q⟩ := z
  subst ex
  cases r1 with
  | cons r rr =>
    cases rr
    cases r
    obtain ⟨its, rv, p', hz⟩ := I1.tuple hq
    have pT : s1.heap.IsTuple a its.toArray := p'
    refine call_enumT pT fun h' he hit hsz hk => wpAny_pyIter_enum he ?_
    have I2 : Inv X pins σ H1 { s1 with heap := h' } := I1.kept (t' := s1.toks) hk
    refine ⟨s1.heap.objs.size + 1, [s1.heap.objs.size + 1, s1.heap.objs.size], _, _, H1, rfl, I2, turn_enumT a (s1.heap.objs.size + 1) s1.heap.objs.size, ⟨⟨.none, he⟩, hit, Nat.succ_ne_self _⟩, fun b hb => ?_, q⟩
    have hle : s1.heap.objs.size ≤ b := by
      rcases List.mem_cons.mp hb with y | y
      · exact y ▸ Nat.le_succ _
      · exact Nat.le_of_eq (List.mem_singleton.mp y).symm
    exact I1.fpOk hle (I1.hok.fresh hle)
theorem walk_enumT {K : PySem.W.Frag} {a : Addr} {xs : List V} : Walk (Iet K a) xs.length (fun H => SqT K H a xs) (YPair (fun i => some (.int (i : Nat))) (fun i => xs[i]?)) := by
  refine ⟨fun i _ hi q => ⟨xs, xs[i], q, by simp [hi]⟩, fun _ q => ⟨xs, q, Nat.le_refl _⟩, fun i H v H' _ q y => ?_⟩
  obtain ⟨T, x, y1, y2, y3, y4⟩ := y
  exact ⟨T, _, x, y1, y2, y3, rfl, y4 xs q⟩
/-- a dict comprehension over a walk -/
theorem dc_it {J : It} {n : Nat} {G : Hp → Prop} {Y : Nat → Hp → V → Hp → Prop} (w : Walk J n G Y) {g : TG} {tt : TT} {tk tv : TE} {vs : List Nat} {σ : L2.St} {H1 : Hp} {D : Addr} {Qd : Hp → Prop}
    (Pv : Nat → Hp → Prop) (h0 : Pv 0 (upd H1 D (.dK []))) (hG : ∀ i H, i ≤ n → Pv i H → G H)
    (hs : ∀ i x H H', i < n → Pv i H → Y i H x H' → g x (wipe σ vs) H' fun σ2 H2 => wipe σ2 vs = wipe σ vs ∧ tt σ2 H2 fun b H3 =>
      if b = true then tk σ2 H3 fun y H4 => tv σ2 H4 fun z H5 => ∃ kvs k, y = kV k ∧ H5 D = some (.dK kvs) ∧ kvs.length < sizeLine ∧ Pv (i + 1) (upd H5 D (.dK (putK kvs k z))) else Pv (i + 1) H3)
    (hd : ∀ H, Pv n H → Qd H) :
    ∃ W : Nat → Nat → Hp → Prop, (∃ m, W 0 m (upd H1 D (.dK []))) ∧ ∀ i m H, W i m H →
      (J.stop i H ∧ Qd H) ∨ (J.go i H ∧ ∃ Nx : Hp → Prop, (∀ H', Nx H' → ∃ m', m' < m ∧ W (i + 1) m' H') ∧ ∀ x H', J.yld i H x H' → g x (wipe σ vs) H' fun σ2 H2 => wipe σ2 vs = wipe σ vs ∧ tt σ2 H2 fun b H3 =>
        if b = true then tk σ2 H3 fun y H4 => tv σ2 H4 fun z H5 => ∃ kvs k, y = kV k ∧ H5 D = some (.dK kvs) ∧ kvs.length < sizeLine ∧ Nx (upd H5 D (.dK (putK kvs k z))) else Nx H3) := by
  refine ⟨fun i m H => m = n - i ∧ i ≤ n ∧ Pv i H, ⟨n, by simp, Nat.zero_le _, h0⟩, ?_⟩
  rintro i m H ⟨rfl, hi, p⟩
  have q := hG i H hi p
  rcases Nat.lt_or_ge i n with hlt | hge
  · exact .inr ⟨w.goes i H hlt q, Pv (i + 1), fun H' p' => ⟨n - (i + 1), by omega, rfl, hlt, p'⟩, fun x H' y => hs i x H H' hlt p (w.yields i H x H' hlt q y)⟩
  · obtain rfl : i = n := by omega
    exact .inl ⟨w.stops H q, hd H p⟩
/-- an item, for an augmented store -/
theorem get_list {X : Cx} : PGet X (fun x y H Q => ∃ p xs j v, x = .ref p ∧ y = .int (j : Nat) ∧ SqL X.K H p xs ∧ xs[j]? = some v ∧ Q v H) := by
  intro pins s σ H x y v u Q I rx ry h
  obtain ⟨p, xs, j, z, rfl, rfl, hq, he, q⟩ := h
  cases rx
  obtain ⟨t, rfl⟩ := ry
  obtain ⟨its, r, pl, hz⟩ := I.list hq
  obtain ⟨w, ew, rw'⟩ := r.get he
  have hj : j < its.length := (List.getElem?_eq_some_iff.mp ew).1
  have h63 := line63
  have hl := r.length
  exact wpAny_getItem_list pl.isList (by omega) (by omega) (by simpa using ew) ⟨z, H, I, rw', q⟩
end Cb

/-! sorted of pairs of an int and a text -/
namespace Cb
open PySem PySem.Spec PyProof.Rows L2
def strLt (x y : Str) : Bool := decide (x.cps.toList < y.cps.toList)
def lexIS (p q : Int × Str) : Bool := if p.1 = q.1 then strLt p.2 q.2 else decide (p.1 < q.1)
theorem strLt_asym {x y : Str} (h : strLt x y = true) : strLt y x = false := by
  have a : x.cps.toList < y.cps.toList := of_decide_eq_true h
  exact decide_eq_false (List.lt_asymm a)
theorem strLt_tr {x y z : Str} (h1 : strLt y x = false) (h2 : strLt z y = false) : strLt z x = false := by
  have a : ¬ y.cps.toList < x.cps.toList := of_decide_eq_false h1
  have b : ¬ z.cps.toList < y.cps.toList := of_decide_eq_false h2
  exact decide_eq_false (List.not_lt.mpr (List.le_trans (List.not_lt.mp a) (List.not_lt.mp b)))
theorem lexIS_swo {α : Type} (k : α → Int × Str) : SrtO.Swo fun v u => lexIS (k v) (k u) := by
  refine ⟨fun x y h => ?_, fun x y z h1 h2 => ?_⟩
  · unfold lexIS at h ⊢
    by_cases e : (k x).1 = (k y).1
    · rw [if_pos e] at h
      rw [if_pos e.symm]
      exact strLt_asym h
    · rw [if_neg e, decide_eq_true_eq] at h
      rw [if_neg (Ne.symm e), decide_eq_false_iff_not]
      omega
  · unfold lexIS at h1 h2 ⊢
    by_cases e1 : (k y).1 = (k x).1
    · rw [if_pos e1] at h1
      by_cases e2 : (k z).1 = (k y).1
      · rw [if_pos e2] at h2
        rw [if_pos (e2.trans e1)]
        exact strLt_tr h1 h2
      · rw [if_neg e2, decide_eq_false_iff_not] at h2
        rw [if_neg (by omega), decide_eq_false_iff_not]
        omega
    · rw [if_neg e1, decide_eq_false_iff_not] at h1
      by_cases e2 : (k z).1 = (k y).1
      · rw [if_neg (by omega), decide_eq_false_iff_not]
        omega
      · rw [if_neg e2, decide_eq_false_iff_not] at h2
        rw [if_neg (by omega), decide_eq_false_iff_not]
        omega
def IsIS (h : Heap) (v : Value) (x : Int) (y : Str) : Prop := ∃ a o t u n, v = .ref a ∧ h.get? a = some o ∧ o.cls = .type "tuple" ∧ o.data = .seq #[.int x t, .str y u] n
theorem IsIS.keeps {h h' : Heap} {v : Value} {x : Int} {y : Str} (p : IsIS h v x y) (k : ∀ b o, h.get? b = some o → o.cls = .type "tuple" → h'.get? b = some o) : IsIS h' v x y := by
  obtain ⟨a, o, t, u, n, e, ho, hc, hd⟩ := p
  exact ⟨a, o, t, u, n, e, k _ _ ho hc, hc, hd⟩
section
variable {prog : Program} {w : World} {A : Around} {E : Value → Shared → Prop} {s : Shared}
theorem cmp_IS {vs : List Value} {k : Value → Int × Str} (hp : ∀ v ∈ vs, IsIS s.heap v (k v).1 (k v).2) : SrtO.Cmp prog w A s (tuples' true) (fun p => p.1 ∈ vs) (SrtO.lt2 fun v u => lexIS (k v) (k u)) := by
  intro p q hm hm'
  have g1 := hp _ hm
  have g2 := hp _ hm'
  show wpAny (model prog w) A (keyLt' (tuples' true) p.1 q.1) (fun r s' => s' = s ∧ r = lexIS (k p.1) (k q.1)) (fun _ _ => False) s
  generalize k p.1 = kp at g1 ⊢
  generalize k q.1 = kq at g2 ⊢
  obtain ⟨x, y⟩ := kp
  obtain ⟨x', y'⟩ := kq
  obtain ⟨a, o, t, u, n, e, ho, hc, hd⟩ := g1
  obtain ⟨a', o', t', u', n', e', ho', hc', hd'⟩ := g2
  rw [e, e']
  refine PySem.W.kat_lt ho hd ho' hd' ?_
  show PySem.W.KatLex prog w A true (decide (2 < 2)) _ [(.int x t, .int x' t'), (.str y u, .str y' u')] 0 s
  refine PySem.W.kat_cons (SeqAt.EqAt.int_int x t x' t' prog w _ _ ?_)
  refine PySem.W.kat_go (fun e1 => ?_) (fun e1 => ?_)
  · obtain rfl : x = x' := by simpa using e1
    refine PySem.W.kat_yes (PySem.W.kat_cons (wpAny_eqBool_str ?_))
    refine PySem.W.kat_go (fun e2 => ?_) (fun e2 => ?_)
    · obtain rfl : y = y' := of_decide_eq_true e2
      refine PySem.W.kat_yes (PySem.W.kat_nil ⟨rfl, ?_⟩)
      unfold lexIS strLt
      rw [if_pos rfl]
      exact (decide_eq_false (List.lt_irrefl _)).symm
    · refine PySem.W.kat_no (PySem.W.kat_one _ _ (PyProof.Rows.lt_str ?_))
      refine (show s = s ∧ decide (y.cps.toList < y'.cps.toList) = _ from ⟨rfl, ?_⟩)
      unfold lexIS strLt
      exact (if_pos rfl).symm
  · have ex : ¬ x = x' := by simpa using e1
    refine PySem.W.kat_no (oneLt_int ⟨rfl, ?_⟩)
    unfold lexIS
    exact (if_neg ex).symm
theorem firsts_IS {h : Heap} : ∀ {vs : List Value}, (∀ v ∈ vs, ∃ x y, IsIS h v x y) → ∃ fs, PySem.W.KatTups h vs fs ∧ fs.length = vs.length ∧ ∀ f ∈ fs, ∃ x t, f = Value.int x t
  | [], _ => ⟨[], .nil, rfl, fun _ z => nomatch z⟩
  | v :: vs, hv => by
    obtain ⟨x, y, a, o, t, u, n, rfl, ho, hc, hd⟩ := hv v List.mem_cons_self
    obtain ⟨fs, f1, f2, f3⟩ := firsts_IS (vs := vs) fun z hz => hv z (List.mem_cons_of_mem _ hz)
    refine ⟨.int x t :: fs, .cons ho hc hd rfl f1, by simp [f2], fun f hf => ?_⟩
    rcases List.mem_cons.mp hf with z | z
    · exact ⟨x, t, z⟩
    · exact f3 f z
theorem sortable_IS {a : Addr} {vs : List Value} {k : Value → Int × Str} (h0 : 0 < vs.length) (hp : ∀ v ∈ vs, IsIS s.heap v (k v).1 (k v).2) (ha : ∀ o, s.heap.get? a = some o → o.cls ≠ .type "tuple") :
    SrtO.SortableO prog w A s a vs fun v u => lexIS (k v) (k u) := by
  intro h' keep
  have hp' : ∀ v ∈ vs, IsIS h' v (k v).1 (k v).2 := fun v hm => (hp v hm).keeps fun b o e c => keep b o (fun z => ha o (z ▸ e) c) e
  obtain ⟨fs, f1, f2, f3⟩ := firsts_IS fun v hm => ⟨_, _, hp' v hm⟩
  refine ⟨tuples' true, fun Q E hq => ?_, cmp_IS hp'⟩
  refine PySem.W.kat_kind (T := .type "int") f1 (by omega) (fun f hm => ?_) (by rfl) ?_
  · obtain ⟨x, t, rfl⟩ := f3 f hm
    exact PySem.W.Looks.now
  · rw [show (Value.type "int" != Value.type "tuple") = true by first | decide +kernel | rfl]
    exact hq
theorem sorted_IS {l : Addr} {vs : List Value} {k : Value → Int × Str} {Q : Value → Shared → Prop} (hl : s.heap.IsList l vs.toArray) (hz : vs.length ≤ sizeLine) (hp : ∀ v ∈ vs, IsIS s.heap v (k v).1 (k v).2)
    (h : ∀ (h' : Heap) (d : Addr) (out : List Value), SrtO.Srtd (fun v u => lexIS (k v) (k u)) out → SrtO.Stb (fun v u => lexIS (k v) (k u)) out vs → (∀ b o, s.heap.get? b = some o → h'.get? b = some o) → s.heap.objs.size ≤ d →
      (∃ n, h'.get? d = some (seqObj "list" out.toArray n)) → Q (.ref d) { s with heap := h' }) : wpAny (model prog w) A (call (.builtin "sorted") [.ref l]) Q E s := by
  refine SrtO.sorted_ord (lexIS_swo k) hl hz (fun h2 h₁ a ha kk => ?_) fun out hs hb => h _ _ out hs hb (fun b o e => sortedAll_old e) (Nat.le_succ _) (sortedAll_at s.heap vs out.toArray)
  refine sortable_IS (s := { s with heap := h₁ }) (by omega) (fun v hm => (hp v hm).keeps fun b o e _ => (kk b o e).2) fun o e => ?_
  cases (show some o = some (seqObj "list" vs.toArray 0) from e.symm.trans ha)
  intro c
  exact absurd (Value.type.inj c) (by decide)
end
/-- sorted(xs), xs a list of pairs of an int and a text -/
def rSortIS (K : PySem.W.Frag) : List V → Hp → VK → Prop := fun vs H Q => ∃ (a : Addr) (xs : List V) (k : V → Int × Str), vs = [V.ref a] ∧ SqL K H a xs ∧ (∀ x ∈ xs, ∃ t, x = V.ref t ∧ H t = some (.tup [.int (k x).1, .str (k x).2])) ∧
  ∀ ys p, SrtO.Srtd (fun v u => lexIS (k v) (k u)) ys → SrtO.Stb (fun v u => lexIS (k v) (k u)) ys xs → H p = none → Q (.ref p) (upd H p (.lst ys))
theorem cr_sortIS {X : Cx} : CallR X (.builtin "sorted") (rSortIS X.K) := by
  intro pins s σ H vs us Q I r h
  obtain ⟨a, xs, k, rfl, hs, hx, q⟩ := h
  obtain ⟨its, rv, hl, hz⟩ := I.list hs
  obtain ⟨u, rfl, ru⟩ := vals1 r
  obtain rfl : u = Value.ref a := ru
  obtain ⟨e1, e2⟩ := refs_back rv fun x m => by
    obtain ⟨t, e, _⟩ := hx x m
    exact ⟨t, e⟩
  have hzz : its.length ≤ sizeLine := by
    rw [← rv.length]
    exact hz
  refine sorted_IS (k := fun u => k (backV u)) hl.isList hzz (fun v hv => ?_) fun h' d out o1 o2 kp hd hn => ?_
  · obtain ⟨t, rfl⟩ := e2 v hv
    have hm : V.ref t ∈ xs := by
      rw [e1]
      exact List.mem_map.mpr ⟨_, hv, rfl⟩
    obtain ⟨t', e, ht⟩ := hx _ hm
    cases e
    obtain ⟨_, its2, r2, o, ho, hc, n, hd⟩ := I.hok _ _ ht
    obtain ⟨u1, u2, rfl, ri, rj⟩ := vals2 r2
    obtain ⟨t1, rfl⟩ := ri
    obtain ⟨t2, rfl⟩ := rj
    exact ⟨t, o, t1, t2, n, rfl, ho, hc, hd⟩
  · have h3 : ∀ u ∈ out, ∃ a, u = Value.ref a := fun u hu => e2 u (o2.perm.mem_iff.mp hu)
    obtain ⟨n, hn⟩ := hn
    have hb : SrtO.Stb (fun v u => lexIS (k v) (k u)) (out.map backV) xs := by
      rw [e1]
      exact SrtO.Stb.map (lexIS_swo k) backV o2
    have hlen : (out.map backV).length ≤ sizeLine := by
      rw [hb.len]
      exact hz
    exact ⟨.ref d, upd H d (.lst (out.map backV)), I.laid (t' := s.toks) kp hd ⟨hlen, out, n, vals_back h3, hn⟩, rfl, q _ d (SrtO.srtd_map o1) hb (I.hok.fresh hd)⟩
end Cb

namespace Cb
open PySem PySem.Spec PyProof.Rows L2
section
variable {prog : Program} {w : World} {A : Around} {E : Value → Shared → Prop} {s : Shared}
theorem sumT_raw {t : Addr} {its : List Value} {ns : List Int} {Q : Value → Shared → Prop} (hh : A.handled = none) (hl : s.heap.IsTuple t its.toArray) (hi : ∀ (i : Nat) v, its[i]? = some v → ∃ tk, v = Value.int (ns.getD i 0) tk) (hn : its.length = ns.length)
    (h : ∀ h' tk t', (∀ b o, s.heap.get? b = some o → h'.get? b = some o) → Q (.int ns.sum t') { s with heap := h', toks := tk }) : wpAny (model prog w) A (call (.builtin "sum") [.ref t]) Q E s := by
  have ht : t < s.heap.objs.size := by
    obtain ⟨o, ho, _⟩ := hl
    exact Heap.lt_size ho
  refine call_sum_walkG (wpAny_pyIter_tuple hl ⟨s.heap.objs.size, _, _, _, _, _, fun i => ns.getD i 0, rfl, Walks.tuple (by simpa using hh) _ t (Nat.ne_of_lt ht) its.toArray, ⟨?_, ?_⟩, ?_, ?_, ?_⟩)
  · exact ⟨_, Heap.get?_push_size _ rfl, rfl, rfl⟩
  · exact hl.at fun o q => Heap.get?_push_of_some _ q
  · intro b hb
    show b < (s.heap.push _).objs.size
    rw [Heap.size_push]
    rcases List.mem_cons.mp hb with z | z
    · rw [z]
      exact Nat.lt_succ_self _
    · rw [List.mem_singleton.mp z]
      exact Nat.lt_succ_of_lt ht
  · intro i v e
    exact hi i v (by simpa using e)
  · intro h' tk t' k
    have e : preSum (fun i => ns.getD i 0) its.toArray.size = ns.sum := by
      rw [preSum_getD]
      simp [hn]
    rw [e]
    refine h h' tk t' fun b o hb => k b o ?_ ?_
    · exact fun z => Nat.ne_of_lt (Heap.lt_size hb) (List.mem_singleton.mp z)
    · exact Heap.get?_push_of_some _ hb
end
def rSumT (K : PySem.W.Frag) : List V → Hp → VK → Prop := fun vs H Q => ∃ (a : Addr) (ns : List Int), vs = [V.ref a] ∧ SqT K H a (ns.map V.int) ∧ Q (.int ns.sum) H
theorem cr_sumT {X : Cx} (hc : X.calm = true) : CallR X (.builtin "sum") (rSumT X.K) := by
  intro pins s σ H vs us Q I r h
  obtain ⟨a, ns, rfl, hs, q⟩ := h
  obtain ⟨its, rv, p, hz⟩ := I.tuple hs
  obtain ⟨u, rfl, ru⟩ := vals1 r
  obtain rfl : u = Value.ref a := ru
  have hlen : its.length = ns.length := by
    have := rv.length
    simpa using this.symm
  refine sumT_raw (I.ok.hd hc) p (fun i v hv => ?_) hlen fun h' tk t' k => ⟨.int ns.sum, H, I.kept k, ⟨t', rfl⟩, q⟩
  have hi : i < ns.length := by
    rw [← hlen]
    exact (List.getElem?_eq_some_iff.mp hv).1
  have hx : (ns.map V.int)[i]? = some (.int (ns.getD i 0)) := by simp [hi]
  obtain ⟨u, hu, tk, ru⟩ := rv.get hx
  exact ⟨tk, (Option.some.inj (hv.symm.trans hu)).trans ru⟩
end Cb

/-! own heaps: what is owned, what stays -/
namespace Cb
open PySem PySem.Spec PyProof.Rows L2
theorem same_new {H H1 : Hp} {p : Addr} {o : HO} (e : Same H H1) (h : H1 p = none) : Same H (upd H1 p o) := fun b u q => by
  have z := e b u q
  rw [upd_ne (ne_of_none z h)]
  exact z
theorem same_mut {H H1 : Hp} {p : Addr} {o : HO} (e : Same H H1) (h : H p = none) : Same H (upd H1 p o) := fun b u q => by
  rw [upd_ne (ne_of_none q h)]
  exact e b u q
theorem Same.rd {H H' : Hp} {a : Addr} {u : HO} (e : Same H H') (h : Rd H a u) : Rd H' a u := h.elim (fun h => .inl (e _ _ h)) fun ⟨o, h⟩ => .inr ⟨o, e _ _ h⟩
theorem Same.tup {K : PySem.W.Frag} {H H' : Hp} {a : Addr} {xs : List V} (e : Same H H') (h : SqT K H a xs) : SqT K H' a xs := h.elim (fun h => .inl (Same.rd e h)) .inr
theorem t_of {K : PySem.W.Frag} {H : Hp} {a : Addr} {xs : List V} (h : H a = some (.tup xs)) : SqT K H a xs := .inl (.inl h)
theorem l_of {K : PySem.W.Frag} {H : Hp} {a : Addr} {xs : List V} (h : H a = some (.lst xs)) : SqL K H a xs := .inl (.inl h)
theorem sqt_inj {K : PySem.W.Frag} {H : Hp} {a : Addr} {xs ys : List V} (h : H a = some (.tup xs)) (h' : H a = some (.tup ys)) : xs = ys := by
  rw [h] at h'
  injection h' with e
  injection e

/-! ### isinstance by type names -/
def rIs (K : PySem.W.Frag) : List V → Hp → VK → Prop := fun xs H Q => ∃ (x : V) (b a : String) (r : Bool), xs = [x, .ty b] ∧ TyX K H x (.type a) ∧ kitB a b = some r ∧ Q (.bl r) H
theorem call_is {X : Cx} : CallR X (.builtin "isinstance") (rIs X.K) := by
  intro pins s σ H xs us Q I r h
  obtain ⟨x, b, a, z, rfl, ty, e, q⟩ := h
  exact call_isi pins s σ H _ us Q I r ⟨x, .ty b, .type a, .type b, z, rfl, .ty b, ty, kit_ty e, q⟩
section
variable {K : PySem.W.Frag} {H : Hp}
theorem ty_int {i : Int} : TyX K H (.int i) (.type "int") := .base (.int i)
theorem ty_str {x : Str} : TyX K H (.str x) (.type "str") := .base (.str x)
theorem ty_tup {a : Addr} {xs : List V} (h : SqT K H a xs) : TyX K H (.ref a) (.type "tuple") := by
  rcases h with (h | ⟨o, h⟩) | ⟨o, _, _, e, c, _⟩
  · exact .base (.tup h)
  · exact .fTuple h
  · exact .kTuple e c
theorem kb1 : kitB "int" "int" = some true := by decide +kernel
theorem kb2 : kitB "int" "bool" = some false := by decide +kernel
theorem kb3 : kitB "str" "str" = some true := by decide +kernel
theorem kb4 : kitB "tuple" "tuple" = some true := by decide +kernel
theorem kb5 : kitB "str" "int" = some false := by decide +kernel
end

/-! ### owned cells over what stays -/
def Cells (H : Hp) : List (Addr × HO) → Prop
  | [] => True
  | e :: r => H e.1 = some e.2 ∧ Cells H r
def adrs (L : List (Addr × HO)) : List Addr := L.map (·.1)
/-- K0: what stays as it is; L: what is owned, and may change -/
structure Sep (K0 H : Hp) (L : List (Addr × HO)) : Prop where
  ext : Same K0 H
  nd : (adrs L).Nodup
  fr : ∀ a ∈ adrs L, K0 a = none
  cs : Cells H L
theorem Cells.mem {H : Hp} : ∀ {L : List (Addr × HO)}, Cells H L → ∀ e ∈ L, H e.1 = some e.2
  | _ :: _, c, e, m => by
    rcases List.mem_cons.mp m with z | z
    · exact z ▸ c.1
    · exact Cells.mem c.2 e z
theorem Cells.of {H : Hp} : ∀ {L : List (Addr × HO)}, (∀ e ∈ L, H e.1 = some e.2) → Cells H L
  | [], _ => True.intro
  | e :: _, h => ⟨h e List.mem_cons_self, Cells.of fun x m => h x (List.mem_cons_of_mem _ m)⟩
theorem Sep.nil {H : Hp} : Sep H H [] := ⟨Same.refl H, List.nodup_nil, (fun _ m => nomatch m), True.intro⟩
theorem Sep.at_ {K0 H : Hp} {L : List (Addr × HO)} (s : Sep K0 H L) {a : Addr} {o : HO} (m : (a, o) ∈ L) : H a = some o := s.cs.mem _ m
/-- a store at an owned cell -/
theorem Sep.put {K0 H : Hp} {L1 L2 : List (Addr × HO)} {a : Addr} {o o' : HO} (s : Sep K0 H (L1 ++ (a, o) :: L2)) : Sep K0 (upd H a o') (L1 ++ (a, o') :: L2) := by
  have ea : adrs (L1 ++ (a, o') :: L2) = adrs (L1 ++ (a, o) :: L2) := by simp [adrs]
  have ha : K0 a = none := s.fr a (by simp [adrs])
  refine ⟨same_mut s.ext ha, ea ▸ s.nd, ea ▸ s.fr, Cells.of fun e m => ?_⟩
  have nd : (adrs (L1 ++ (a, o) :: L2)).Nodup := s.nd
  simp only [adrs, List.map_append, List.map_cons, List.nodup_append, List.nodup_cons] at nd
  rcases List.mem_append.mp m with z | z
  · have ne : e.1 ≠ a := nd.2.2 e.1 (List.mem_map_of_mem z) a List.mem_cons_self
    rw [upd_ne ne]
    exact s.cs.mem e (List.mem_append_left _ z)
  · rcases List.mem_cons.mp z with z | z
    · subst z
      exact upd_same
    · have ne : e.1 ≠ a := fun q => nd.2.1.1 (q ▸ List.mem_map_of_mem z)
      rw [upd_ne ne]
      exact s.cs.mem e (List.mem_append_right _ (List.mem_cons_of_mem _ z))
theorem Sep.free {K0 H : Hp} {L : List (Addr × HO)} (s : Sep K0 H L) {p : Addr} (h : H p = none) : K0 p = none ∧ p ∉ adrs L := by
  refine ⟨Same.free s.ext h, fun m => ?_⟩
  obtain ⟨e, me, rfl⟩ := List.mem_map.mp m
  rw [s.cs.mem e me] at h
  cases h
theorem Sep.cells_new {K0 H : Hp} {L : List (Addr × HO)} (s : Sep K0 H L) {p : Addr} {o : HO} (h : H p = none) : Cells (upd H p o) L := by
  refine Cells.of fun e m => ?_
  rw [upd_ne (ne_of_none (s.cs.mem e m) h)]
  exact s.cs.mem e m
/-- a new thing that nobody asks for -/
theorem Sep.drop {K0 H : Hp} {L : List (Addr × HO)} (s : Sep K0 H L) {p : Addr} {o : HO} (h : H p = none) : Sep K0 (upd H p o) L := ⟨same_new s.ext h, s.nd, s.fr, s.cells_new h⟩
/-- .. that stays as it is -/
theorem Sep.keep {K0 H : Hp} {L : List (Addr × HO)} (s : Sep K0 H L) {p : Addr} {o : HO} (h : H p = none) : Sep (upd K0 p o) (upd H p o) L := by
  obtain ⟨h0, hm⟩ := s.free h
  refine ⟨fun b u q => ?_, s.nd, fun a ma => ?_, s.cells_new h⟩
  · by_cases e : b = p
    · subst e
      rw [upd_same] at q ⊢
      exact q
    · rw [upd_ne e] at q ⊢
      exact s.ext b u q
  · have ne : a ≠ p := fun q => hm (q ▸ ma)
    rw [upd_ne ne]
    exact s.fr a ma
/-- .. that is owned -/
theorem Sep.own {K0 H : Hp} {L : List (Addr × HO)} (s : Sep K0 H L) {p : Addr} {o : HO} (h : H p = none) : Sep K0 (upd H p o) ((p, o) :: L) := by
  obtain ⟨h0, hm⟩ := s.free h
  refine ⟨same_new s.ext h, List.nodup_cons.mpr ⟨hm, s.nd⟩, fun a ma => ?_, upd_same, s.cells_new h⟩
  rcases List.mem_cons.mp ma with z | z
  · exact z ▸ h0
  · exact s.fr a z
theorem Sep.perm {K0 H : Hp} {L M : List (Addr × HO)} (s : Sep K0 H L) (p : M.Perm L) : Sep K0 H M :=
  ⟨s.ext, (List.Perm.nodup_iff (p.map (Prod.fst : Addr × HO → Addr))).mpr s.nd, fun a m => s.fr a ((p.map (Prod.fst : Addr × HO → Addr)).mem_iff.mp m), Cells.of fun e m => s.cs.mem e (p.mem_iff.mp m)⟩
theorem Sep.weak {K0 H : Hp} {L M : List (Addr × HO)} (s : Sep K0 H (L ++ M)) : Sep K0 H L :=
  ⟨s.ext, (List.nodup_append.mp (by have z := s.nd; unfold adrs at z; rw [List.map_append] at z; exact z)).1, fun a m => s.fr a (by unfold adrs at m ⊢; rw [List.map_append]; exact List.mem_append_left _ m), Cells.of fun e m => s.cs.mem e (List.mem_append_left _ m)⟩
/-- all but the owned -/
noncomputable def less (H : Hp) (L : List (Addr × HO)) : Hp := fun a => if a ∈ adrs L then none else H a
theorem less_in {H : Hp} {L : List (Addr × HO)} {a : Addr} (m : a ∈ adrs L) : less H L a = none := if_pos m
theorem less_out {H : Hp} {L : List (Addr × HO)} {a : Addr} (m : a ∉ adrs L) : less H L a = H a := if_neg m
theorem Sep.rebase {K0 H : Hp} {L : List (Addr × HO)} (s : Sep K0 H L) : Sep (less H L) H L ∧ Same K0 (less H L) := by
  refine ⟨⟨fun b o q => ?_, s.nd, fun a m => less_in m, s.cs⟩, fun b o q => ?_⟩
  · by_cases m : b ∈ adrs L
    · rw [less_in m] at q
      cases q
    · rwa [less_out m] at q
  · rw [less_out fun m => by rw [s.fr b m] at q; cases q]
    exact s.ext b o q
/-- a part of what is owned, handed to a callee; what it hands back -/
theorem Sep.part {K0 H : Hp} {L M : List (Addr × HO)} (s : Sep K0 H (L ++ M)) : Sep (less H L) H L ∧ Same K0 (less H L) := s.weak.rebase
theorem Sep.back {K0 H H' K1 : Hp} {L M L2 : List (Addr × HO)} (s : Sep K0 H (L ++ M)) (g : Same (less H L) K1) (t : Sep K1 H' L2) : Sep K0 H' (L2 ++ M) := by
  have nd : (adrs L ++ adrs M).Nodup := by
    have z := s.nd
    unfold adrs at z ⊢
    rw [List.map_append] at z
    exact z
  obtain ⟨n1, n2, n3⟩ := List.nodup_append.mp nd
  have keepM : ∀ e ∈ M, K1 e.1 = some e.2 := fun e m => by
    refine g _ _ ?_
    rw [less_out fun q => n3 _ q _ (List.mem_map_of_mem m) rfl]
    exact s.cs.mem e (List.mem_append_right _ m)
  have ext : Same K0 K1 := fun b o q => g b o (s.part.2 b o q)
  refine ⟨fun b o q => t.ext b o (ext b o q), ?_, fun a m => ?_, Cells.of fun e m => ?_⟩
  · unfold adrs
    rw [List.map_append]
    refine List.nodup_append.mpr ⟨t.nd, n2, fun a ma b mb q => ?_⟩
    subst q
    obtain ⟨e, me, rfl⟩ := List.mem_map.mp mb
    have z := t.fr _ ma
    rw [keepM e me] at z
    cases z
  · unfold adrs at m
    rw [List.map_append] at m
    rcases List.mem_append.mp m with z | z
    · have h1 := t.fr a z
      cases q : K0 a with
      | none => rfl
      | some o =>
        rw [ext a o q] at h1
        cases h1
    · exact s.fr a (by unfold adrs; rw [List.map_append]; exact List.mem_append_right _ z)
  · rcases List.mem_append.mp m with z | z
    · exact t.cs.mem e z
    · exact t.ext _ _ (keepM e z)
end Cb

namespace Cb
open PySem PySem.Spec PyProof.Rows L2

def top (i : Nat) : Stmt := PySem.Challenge.pw_callbells_k35_whole_true_rings_are_in_ra.main.body.getD i (.Pass ⟨0, 0, 0, 0⟩)
abbrev s_is_integer : Stmt := top 17
abbrev s_is_letters : Stmt := top 19
abbrev s_is_name : Stmt := top 20
abbrev s_is_line : Stmt := top 21
abbrev s_is_work : Stmt := top 22
abbrev s_is_step : Stmt := top 23
abbrev s_spoilt_named : Stmt := top 24
abbrev s_spoilt_line : Stmt := top 25
abbrev s_spoilt_work : Stmt := top 26
abbrev s_spoilt_handler : Stmt := top 27
abbrev s_check_setup : Stmt := top 30
abbrev s_put_changed : Stmt := top 39
abbrev s_law_taken : Stmt := top 54
abbrev s_law : Stmt := top 57
abbrev s_law_mixed : Stmt := top 55
abbrev s_law_plain : Stmt := top 56
abbrev s_check_plain : Stmt := top 31
abbrev s_first_impossible : Stmt := top 34
abbrev s_ring_ranges : Stmt := top 35
abbrev s_played_ranges : Stmt := top 36
abbrev s_Setup_init : Stmt := inClass (top 29) 3
abbrev s_Setup_contains : Stmt := inClass (top 29) 6
abbrev s_Setup_getitem : Stmt := inClass (top 29) 7
abbrev s_Setup_order : Stmt := inClass (top 29) 13
abbrev s_Setup_ticks_of : Stmt := inClass (top 29) 17
abbrev s_Setup_works : Stmt := inClass (top 29) 12
abbrev s_Setup_lines : Stmt := inClass (top 29) 11
abbrev s_Setup_is_plain : Stmt := inClass (top 29) 14
abbrev s_LogPlay_init : Stmt := inClass (top 37) 0
abbrev s_LogPlay_is_formed : Stmt := inClass (top 37) 1
abbrev s_LogPlay_go_on_until : Stmt := inClass (top 37) 2
abbrev s_LogPlay_lets_by : Stmt := inClass (top 37) 3
abbrev s_LogPlay_earliest_ring : Stmt := inClass (top 37) 4
abbrev s_LogPlay_begin : Stmt := inClass (top 37) 5
abbrev s_LogPlay_go_by : Stmt := inClass (top 37) 6
abbrev s_Board_init : Stmt := inClass (top 41) 0
abbrev s_Board_check_line : Stmt := inClass (top 41) 3
abbrev s_Board_is_edge : Stmt := inClass (top 41) 4
abbrev s_Board_ring : Stmt := inClass (top 41) 5
abbrev s_Board_begin : Stmt := inClass (top 41) 12
abbrev s_Board_end : Stmt := inClass (top 41) 13
abbrev s_Board_waits : Stmt := inClass (top 41) 17
abbrev s_Board_waiting_lines : Stmt := inClass (top 41) 18
abbrev s_Board_is_enabled : Stmt := inClass (top 41) 15
abbrev s_Board_ready_lines : Stmt := inClass (top 41) 19
abbrev s_WorkQueue_init : Stmt := inClass (top 43) 0
abbrev s_WorkQueue_rows : Stmt := inClass (top 43) 2
abbrev s_WorkQueue_is_empty : Stmt := inClass (top 43) 3
abbrev s_WorkQueue_put : Stmt := inClass (top 43) 4
abbrev s_WorkQueue_spend : Stmt := inClass (top 43) 6
abbrev s_Processor_init : Stmt := inClass (top 49) 0
abbrev s_Processor_take : Stmt := inClass (top 49) 2
abbrev s_Processor_go_on : Stmt := inClass (top 49) 3
abbrev s_Processor_call_rows : Stmt := inClass (top 49) 5
abbrev s_Processor_spent_ticks : Stmt := inClass (top 49) 8
abbrev s_Processor_lets_by : Stmt := inClass (top 49) 12
abbrev s_Processor_present_step : Stmt := inClass (top 49) 13
abbrev s_Processor_passes_flag : Stmt := inClass (top 49) 14
abbrev s_Processor_takes_no_tick : Stmt := inClass (top 49) 15
abbrev s_Processor_act : Stmt := inClass (top 49) 16
abbrev s_Processor_go_through : Stmt := inClass (top 49) 17
abbrev s_Processor_spend : Stmt := inClass (top 49) 18
abbrev s_Processor_spend_beside_calls : Stmt := inClass (top 49) 19
abbrev s_Single_init : Stmt := inClass (top 52) 0
abbrev s_Single_ring : Stmt := inClass (top 52) 9
abbrev s_Single_tick : Stmt := inClass (top 52) 15
abbrev s_Single_calls : Stmt := inClass (top 52) 19
abbrev s_Single_spent : Stmt := inClass (top 52) 25
abbrev s_Single_waiting : Stmt := inClass (top 52) 18
def prA (C f : Str) (K : PySem.W.Frag) : Addr := match PySem.W.findIn K (.ref (He.ga K C)) f with
  | some (some (.ref p)) => (match PySem.W.recIn K p "property" with
    | some (.ref g :: _) => g
    | _ => 0)
  | _ => 0
abbrev aC (x : Str) (K : PySem.W.Frag) : Addr := He.ga K x
def argL : List (Str × He.Dv) := [("run", .str "ticks"), ("ring", .str "line"), ("quiet", .str "level"), ("mask", .str "line"), ("unmask", .str "line"), ("set", .str "flag"), ("clear", .str "flag"), ("await", .str "flag"), ("bar", .str "bar"), ("later", .str "work")]
def tupAtB (K : PySem.W.Frag) (a : Addr) (vs : List He.Dv) : Bool := match K.lookup a with
  | some ⟨.type c, _, .seq its _, _⟩ => decide (c = "tuple") && (decide (its.size ≤ sizeLine) && He.relAll (vs.map (He.Dv.v K)) its.toList)
  | _ => false
theorem tupAtB_ok {K : PySem.W.Frag} {a : Addr} {vs : List He.Dv} (h : tupAtB K a vs = true) (H : Hp) : SqT K H a (vs.map (He.Dv.v K)) := by
  unfold tupAtB at h
  cases q : K.lookup a with
  | none =>
    rw [q] at h
    cases h
  | some o =>
    obtain ⟨oc, od, dt, osl⟩ := o
    rw [q] at h
    cases oc with
    | type c =>
      cases dt with
      | seq its n =>
        obtain ⟨h1, h2⟩ := He.ba (show (decide (c = "tuple") && (decide (its.size ≤ sizeLine) && He.relAll (vs.map (He.Dv.v K)) its.toList)) = true from h)
        obtain ⟨h3, h4⟩ := He.ba h2
        exact .inr ⟨_, its, n, q, congrArg Value.type (of_decide_eq_true h1), rfl, of_decide_eq_true h3, He.relAll_ok h4⟩
      | _ => cases h
    | _ => cases dt <;> cases h
theorem int_rel {mg : Str → Option Value} {x : Str} {i : Int} (h : ∃ t, mg x = some (.int i t)) : ∃ u, mg x = some u ∧ RelV (.int i) u := let ⟨t, e⟩ := h; ⟨_, e, t, rfl⟩
def propB (K : PySem.W.Frag) (C f : Str) : Bool := match PySem.W.findIn K (.ref (aC C K)) f with
  | some (some (.ref p)) => He.eqO (PySem.W.specialIn K (.ref p) "__get__") (some (some (.builtin "property.__get__"))) && (decide (PySem.W.takesIn K (.ref p) = some true) && (match PySem.W.recIn K p "property" with
    | some (.ref g :: _) => decide (g = prA C f K)
    | _ => false))
  | _ => false
theorem propB_ok {K : PySem.W.Frag} {C f : Str} (h : propB K C f = true) : ∃ p, PropOf K (aC C K) f p (prA C f K) := by
  unfold propB at h
  cases e : PySem.W.findIn K (.ref (aC C K)) f with
  | none => rw [e] at h; cases h
  | some r => cases r with
    | none => rw [e] at h; cases h
    | some v => cases v with
      | ref p =>
        rw [e] at h
        obtain ⟨h1, h⟩ := He.ba h
        obtain ⟨h2, h3⟩ := He.ba h
        refine ⟨p, e, He.eqO_ok h1, of_decide_eq_true h2, ?_⟩
        cases q : PySem.W.recIn K p "property" with
        | none => rw [q] at h3; cases h3
        | some l => cases l with
          | nil => rw [q] at h3; cases h3
          | cons g r => cases g with
            | ref g =>
              rw [q] at h3
              exact ⟨r, by rw [show g = prA C f K from of_decide_eq_true h3]⟩
            | _ => rw [q] at h3; cases h3
      | _ => rw [e] at h; cases h
def creadB (K : PySem.W.Frag) (C : Addr) : Bool := PySem.W.readsIn K C (.type "type") && He.eqO (PySem.W.specialIn K (.ref C) "__getattribute__") (some (some (.builtin "type.__getattribute__")))
theorem creadB_ok {K : PySem.W.Frag} {C : Addr} (h : creadB K C = true) : ClX.CRead K C (.type "type") := ⟨(He.ba h).1, He.eqO_ok (He.ba h).2⟩
def cvalB (K : PySem.W.Frag) (C : Addr) (f : Str) (i : Int) : Bool := match PySem.W.findCls K (.ref C) (.type "type") f with
  | some (.val (.int j _)) => decide (j = i)
  | _ => false
theorem cvalB_ok {K : PySem.W.Frag} {C : Addr} {f : Str} {i : Int} (h : cvalB K C f i = true) : ∃ u, ClX.CVal K C (.type "type") f (.int i) u := by
  unfold cvalB at h
  split at h
  · rename_i j t e
    obtain rfl : j = i := of_decide_eq_true h
    exact ⟨_, e, t, rfl⟩
  · cases h
structure Txt (K : PySem.W.Frag) (mg : Str → Option Value) : Prop where
  n_len : mg "len" = none
  n_isinstance : mg "isinstance" = none
  n_enumerate : mg "enumerate" = none
  n_range : mg "range" = none
  n_tuple : mg "tuple" = none
  n_list : mg "list" = none
  n_dict : mg "dict" = none
  n_sorted : mg "sorted" = none
  n_all : mg "all" = none
  n_sum : mg "sum" = none
  n_max : mg "max" = none
  n_int : mg "int" = none
  n_bool : mg "bool" = none
  n_str : mg "str" = none
  n_min : mg "min" = none
  n_set : mg "set" = none
  k_MAX_LETTERS : ∃ u, mg "MAX_LETTERS" = some u ∧ RelV (.int 8) u
  k_MAX_RANK : ∃ u, mg "MAX_RANK" = some u ∧ RelV (.int 9) u
  k_MAX_STEPS : ∃ u, mg "MAX_STEPS" = some u ∧ RelV (.int 8) u
  k_MAX_TICKS : ∃ u, mg "MAX_TICKS" = some u ∧ RelV (.int 99) u
  k_CALLED : ∃ u, mg "CALLED" = some u ∧ RelV (.int 0) u
  k_SPUN : ∃ u, mg "SPUN" = some u ∧ RelV (.int 1) u
  k_WORKED : ∃ u, mg "WORKED" = some u ∧ RelV (.int 2) u
  k_IDLE : ∃ u, mg "IDLE" = some u ∧ RelV (.int 3) u
  k_MOST_TICKS : ∃ u, mg "MOST_TICKS" = some u ∧ RelV (.int 10000) u
  k_MAX_TICK : ∃ u, mg "MAX_TICK" = some u ∧ RelV (.int 1000000) u
  k_KINDS : ∃ u, mg "KINDS" = some u ∧ RelV (.ref (He.ga K "KINDS")) u
  v_KINDS : ∀ H, SqT K H (He.ga K "KINDS") [.str "edge", .str "level"]
  k_ARGUMENTS : ∃ u, mg "ARGUMENTS" = some u ∧ RelV (.ref (He.ga K "ARGUMENTS")) u
  v_ARGUMENTS : He.valsB K (He.ga K "ARGUMENTS") argL = true
  f_is_integer : mg "is_integer" = some (.ref (He.ga K "is_integer"))
  f_is_letters : mg "is_letters" = some (.ref (He.ga K "is_letters"))
  f_is_name : mg "is_name" = some (.ref (He.ga K "is_name"))
  f_is_line : mg "is_line" = some (.ref (He.ga K "is_line"))
  f_is_work : mg "is_work" = some (.ref (He.ga K "is_work"))
  f_is_step : mg "is_step" = some (.ref (He.ga K "is_step"))
  f_spoilt_named : mg "spoilt_named" = some (.ref (He.ga K "spoilt_named"))
  f_spoilt_line : mg "spoilt_line" = some (.ref (He.ga K "spoilt_line"))
  f_spoilt_work : mg "spoilt_work" = some (.ref (He.ga K "spoilt_work"))
  f_spoilt_handler : mg "spoilt_handler" = some (.ref (He.ga K "spoilt_handler"))
  f_check_setup : mg "check_setup" = some (.ref (He.ga K "check_setup"))
  f_put_changed : mg "put_changed" = some (.ref (He.ga K "put_changed"))
  f__law_taken : mg "_law_taken" = some (.ref (He.ga K "_law_taken"))
  f_law : mg "law" = some (.ref (He.ga K "law"))
  f__law_mixed : mg "_law_mixed" = some (.ref (He.ga K "_law_mixed"))
  f__law_plain : mg "_law_plain" = some (.ref (He.ga K "_law_plain"))
  f_check_plain : mg "check_plain" = some (.ref (He.ga K "check_plain"))
  f_first_impossible : mg "first_impossible" = some (.ref (He.ga K "first_impossible"))
  f_ring_ranges : mg "ring_ranges" = some (.ref (He.ga K "ring_ranges"))
  f_played_ranges : mg "played_ranges" = some (.ref (He.ga K "played_ranges"))
  g_Setup : mg "Setup" = some (.ref (aC "Setup" K))
  cl_Setup : Cls K (aC "Setup" K)
  mk_Setup : Mk K (aC "Setup" K) (He.ma K (aC "Setup" K) "__init__")
  t_Setup_lines : NoAttr K (aC "Setup" K) "_lines"
  t_Setup_works : NoAttr K (aC "Setup" K) "_works"
  t_Setup_by_name : NoAttr K (aC "Setup" K) "_by_name"
  t_Setup_order : NoAttr K (aC "Setup" K) "_order"
  g_Board : mg "Board" = some (.ref (aC "Board" K))
  cl_Board : Cls K (aC "Board" K)
  mk_Board : Mk K (aC "Board" K) (He.ma K (aC "Board" K) "__init__")
  t_Board_setup : NoAttr K (aC "Board" K) "_setup"
  t_Board_rung : NoAttr K (aC "Board" K) "_rung"
  t_Board_disabled : NoAttr K (aC "Board" K) "_disabled"
  t_Board_under_way : NoAttr K (aC "Board" K) "_under_way"
  t_Board_flags : NoAttr K (aC "Board" K) "_flags"
  t_Board_merges : NoAttr K (aC "Board" K) "_merges"
  g_WorkQueue : mg "WorkQueue" = some (.ref (aC "WorkQueue" K))
  cl_WorkQueue : Cls K (aC "WorkQueue" K)
  mk_WorkQueue : Mk K (aC "WorkQueue" K) (He.ma K (aC "WorkQueue" K) "__init__")
  t_WorkQueue_ranks : NoAttr K (aC "WorkQueue" K) "_ranks"
  t_WorkQueue_lengths : NoAttr K (aC "WorkQueue" K) "_lengths"
  t_WorkQueue_rows : NoAttr K (aC "WorkQueue" K) "_rows"
  g_Processor : mg "Processor" = some (.ref (aC "Processor" K))
  cl_Processor : Cls K (aC "Processor" K)
  mk_Processor : Mk K (aC "Processor" K) (He.ma K (aC "Processor" K) "__init__")
  t_Processor_setup : NoAttr K (aC "Processor" K) "_setup"
  t_Processor_board : NoAttr K (aC "Processor" K) "_board"
  t_Processor_bar : NoAttr K (aC "Processor" K) "_bar"
  t_Processor_stack : NoAttr K (aC "Processor" K) "_stack"
  t_Processor_jobs : NoAttr K (aC "Processor" K) "_jobs"
  t_Processor_counts : NoAttr K (aC "Processor" K) "_counts"
  g_Single : mg "Single" = some (.ref (aC "Single" K))
  cl_Single : Cls K (aC "Single" K)
  mk_Single : Mk K (aC "Single" K) (He.ma K (aC "Single" K) "__init__")
  t_Single_setup : NoAttr K (aC "Single" K) "_setup"
  t_Single_board : NoAttr K (aC "Single" K) "_board"
  t_Single_processor : NoAttr K (aC "Single" K) "_processor"
  t_Single_now : NoAttr K (aC "Single" K) "_now"
  g_LogPlay : mg "LogPlay" = some (.ref (aC "LogPlay" K))
  cl_LogPlay : Cls K (aC "LogPlay" K)
  mk_LogPlay : Mk K (aC "LogPlay" K) (He.ma K (aC "LogPlay" K) "__init__")
  t_LogPlay_ranks : NoAttr K (aC "LogPlay" K) "_ranks"
  t_LogPlay_costs : NoAttr K (aC "LogPlay" K) "_costs"
  t_LogPlay_now : NoAttr K (aC "LogPlay" K) "_now"
  t_LogPlay_least : NoAttr K (aC "LogPlay" K) "_least"
  t_LogPlay_stack : NoAttr K (aC "LogPlay" K) "_stack"
  t_LogPlay_open : NoAttr K (aC "LogPlay" K) "_open"
  m_Setup_contains : Meth K (aC "Setup" K) "__contains__" (He.ma K (aC "Setup" K) "__contains__")
  m_Setup_getitem : Meth K (aC "Setup" K) "__getitem__" (He.ma K (aC "Setup" K) "__getitem__")
  m_Setup_ticks_of : Meth K (aC "Setup" K) "ticks_of" (He.ma K (aC "Setup" K) "ticks_of")
  m_LogPlay_is_formed : Meth K (aC "LogPlay" K) "is_formed" (He.ma K (aC "LogPlay" K) "is_formed")
  m_LogPlay_go_on_until : Meth K (aC "LogPlay" K) "go_on_until" (He.ma K (aC "LogPlay" K) "go_on_until")
  m_LogPlay_lets_by : Meth K (aC "LogPlay" K) "lets_by" (He.ma K (aC "LogPlay" K) "lets_by")
  m_LogPlay_earliest_ring : Meth K (aC "LogPlay" K) "earliest_ring" (He.ma K (aC "LogPlay" K) "earliest_ring")
  m_LogPlay_begin : Meth K (aC "LogPlay" K) "begin" (He.ma K (aC "LogPlay" K) "begin")
  m_LogPlay_go_by : Meth K (aC "LogPlay" K) "_go_by" (He.ma K (aC "LogPlay" K) "_go_by")
  m_Board_check_line : Meth K (aC "Board" K) "_check_line" (He.ma K (aC "Board" K) "_check_line")
  m_Board_is_edge : Meth K (aC "Board" K) "_is_edge" (He.ma K (aC "Board" K) "_is_edge")
  m_Board_ring : Meth K (aC "Board" K) "ring" (He.ma K (aC "Board" K) "ring")
  m_Board_begin : Meth K (aC "Board" K) "begin" (He.ma K (aC "Board" K) "begin")
  m_Board_end : Meth K (aC "Board" K) "end" (He.ma K (aC "Board" K) "end")
  m_Board_waits : Meth K (aC "Board" K) "waits" (He.ma K (aC "Board" K) "waits")
  m_Board_waiting_lines : Meth K (aC "Board" K) "waiting_lines" (He.ma K (aC "Board" K) "waiting_lines")
  m_Board_is_enabled : Meth K (aC "Board" K) "is_enabled" (He.ma K (aC "Board" K) "is_enabled")
  m_Board_ready_lines : Meth K (aC "Board" K) "ready_lines" (He.ma K (aC "Board" K) "ready_lines")
  m_WorkQueue_rows : Meth K (aC "WorkQueue" K) "rows" (He.ma K (aC "WorkQueue" K) "rows")
  m_WorkQueue_is_empty : Meth K (aC "WorkQueue" K) "is_empty" (He.ma K (aC "WorkQueue" K) "is_empty")
  m_WorkQueue_put : Meth K (aC "WorkQueue" K) "put" (He.ma K (aC "WorkQueue" K) "put")
  m_WorkQueue_spend : Meth K (aC "WorkQueue" K) "spend" (He.ma K (aC "WorkQueue" K) "spend")
  m_Processor_take : Meth K (aC "Processor" K) "take" (He.ma K (aC "Processor" K) "take")
  m_Processor_go_on : Meth K (aC "Processor" K) "go_on" (He.ma K (aC "Processor" K) "go_on")
  m_Processor_call_rows : Meth K (aC "Processor" K) "call_rows" (He.ma K (aC "Processor" K) "call_rows")
  m_Processor_spent_ticks : Meth K (aC "Processor" K) "spent_ticks" (He.ma K (aC "Processor" K) "spent_ticks")
  m_Processor_lets_by : Meth K (aC "Processor" K) "_lets_by" (He.ma K (aC "Processor" K) "_lets_by")
  m_Processor_present_step : Meth K (aC "Processor" K) "_present_step" (He.ma K (aC "Processor" K) "_present_step")
  m_Processor_passes_flag : Meth K (aC "Processor" K) "_passes_flag" (He.ma K (aC "Processor" K) "_passes_flag")
  m_Processor_takes_no_tick : Meth K (aC "Processor" K) "_takes_no_tick" (He.ma K (aC "Processor" K) "_takes_no_tick")
  m_Processor_act : Meth K (aC "Processor" K) "_act" (He.ma K (aC "Processor" K) "_act")
  m_Processor_go_through : Meth K (aC "Processor" K) "_go_through" (He.ma K (aC "Processor" K) "_go_through")
  m_Processor_spend : Meth K (aC "Processor" K) "_spend" (He.ma K (aC "Processor" K) "_spend")
  m_Processor_spend_beside_calls : Meth K (aC "Processor" K) "_spend_beside_calls" (He.ma K (aC "Processor" K) "_spend_beside_calls")
  m_Single_ring : Meth K (aC "Single" K) "ring" (He.ma K (aC "Single" K) "ring")
  m_Single_tick : Meth K (aC "Single" K) "tick" (He.ma K (aC "Single" K) "tick")
  p_Setup_order : ∃ p, PropOf K (aC "Setup" K) "order" p (prA "Setup" "order" K)
  p_Setup_works : ∃ p, PropOf K (aC "Setup" K) "works" p (prA "Setup" "works" K)
  p_Setup_lines : ∃ p, PropOf K (aC "Setup" K) "lines" p (prA "Setup" "lines" K)
  p_Setup_is_plain : ∃ p, PropOf K (aC "Setup" K) "is_plain" p (prA "Setup" "is_plain" K)
  p_Single_calls : ∃ p, PropOf K (aC "Single" K) "calls" p (prA "Single" "calls" K)
  p_Single_spent : ∃ p, PropOf K (aC "Single" K) "spent" p (prA "Single" "spent" K)
  p_Single_waiting : ∃ p, PropOf K (aC "Single" K) "waiting" p (prA "Single" "waiting" K)
  r_Setup : ClX.CRead K (aC "Setup" K) (.type "type")
  c_Setup_MAX_LINES : ∃ u, ClX.CVal K (aC "Setup" K) (.type "type") "MAX_LINES" (.int 12) u
  c_Setup_MAX_WORKS : ∃ u, ClX.CVal K (aC "Setup" K) (.type "type") "MAX_WORKS" (.int 8) u
  c_Setup_MAX_FLAG : ∃ u, ClX.CVal K (aC "Setup" K) (.type "type") "MAX_FLAG" (.int 7) u
  d_Setup : ∀ H, SqT K H (He.dflAt ("Setup", some "__init__") 0 K) []
  i_getitem : PySem.W.fnIn K (He.ma K (aC "Setup" K) "__getitem__") = true
def exL (K : PySem.W.Frag) : List Bool := [(He.Fa.free "len").ok K,
  (He.Fa.free "isinstance").ok K,
  (He.Fa.free "enumerate").ok K,
  (He.Fa.free "range").ok K,
  (He.Fa.free "tuple").ok K,
  (He.Fa.free "list").ok K,
  (He.Fa.free "dict").ok K,
  (He.Fa.free "sorted").ok K,
  (He.Fa.free "all").ok K,
  (He.Fa.free "sum").ok K,
  (He.Fa.free "max").ok K,
  (He.Fa.free "int").ok K,
  (He.Fa.free "bool").ok K,
  (He.Fa.free "str").ok K,
  (He.Fa.free "min").ok K,
  (He.Fa.free "set").ok K,
  (He.Fa.int "MAX_LETTERS" 8).ok K,
  (He.Fa.int "MAX_RANK" 9).ok K,
  (He.Fa.int "MAX_STEPS" 8).ok K,
  (He.Fa.int "MAX_TICKS" 99).ok K,
  (He.Fa.int "CALLED" 0).ok K,
  (He.Fa.int "SPUN" 1).ok K,
  (He.Fa.int "WORKED" 2).ok K,
  (He.Fa.int "IDLE" 3).ok K,
  (He.Fa.int "MOST_TICKS" 10000).ok K,
  (He.Fa.int "MAX_TICK" 1000000).ok K,
  (He.Fa.glo "KINDS").ok K,
  He.tupB K "KINDS" [.str "edge", .str "level"],
  (He.Fa.glo "ARGUMENTS").ok K,
  He.valsB K (He.ga K "ARGUMENTS") argL,
  (He.Fa.glo "is_integer").ok K,
  (He.Fa.glo "is_letters").ok K,
  (He.Fa.glo "is_name").ok K,
  (He.Fa.glo "is_line").ok K,
  (He.Fa.glo "is_work").ok K,
  (He.Fa.glo "is_step").ok K,
  (He.Fa.glo "spoilt_named").ok K,
  (He.Fa.glo "spoilt_line").ok K,
  (He.Fa.glo "spoilt_work").ok K,
  (He.Fa.glo "spoilt_handler").ok K,
  (He.Fa.glo "check_setup").ok K,
  (He.Fa.glo "put_changed").ok K,
  (He.Fa.glo "_law_taken").ok K,
  (He.Fa.glo "law").ok K,
  (He.Fa.glo "_law_mixed").ok K,
  (He.Fa.glo "_law_plain").ok K,
  (He.Fa.glo "check_plain").ok K,
  (He.Fa.glo "first_impossible").ok K,
  (He.Fa.glo "ring_ranges").ok K,
  (He.Fa.glo "played_ranges").ok K,
  (He.Fa.glo "Setup").ok K,
  (He.Fa.cls "Setup").ok K,
  (He.Fa.mkr "Setup").ok K,
  (He.Fa.noat "Setup" "_lines").ok K,
  (He.Fa.noat "Setup" "_works").ok K,
  (He.Fa.noat "Setup" "_by_name").ok K,
  (He.Fa.noat "Setup" "_order").ok K,
  (He.Fa.glo "Board").ok K,
  (He.Fa.cls "Board").ok K,
  (He.Fa.mkr "Board").ok K,
  (He.Fa.noat "Board" "_setup").ok K,
  (He.Fa.noat "Board" "_rung").ok K,
  (He.Fa.noat "Board" "_disabled").ok K,
  (He.Fa.noat "Board" "_under_way").ok K,
  (He.Fa.noat "Board" "_flags").ok K,
  (He.Fa.noat "Board" "_merges").ok K,
  (He.Fa.glo "WorkQueue").ok K,
  (He.Fa.cls "WorkQueue").ok K,
  (He.Fa.mkr "WorkQueue").ok K,
  (He.Fa.noat "WorkQueue" "_ranks").ok K,
  (He.Fa.noat "WorkQueue" "_lengths").ok K,
  (He.Fa.noat "WorkQueue" "_rows").ok K,
  (He.Fa.glo "Processor").ok K,
  (He.Fa.cls "Processor").ok K,
  (He.Fa.mkr "Processor").ok K,
  (He.Fa.noat "Processor" "_setup").ok K,
  (He.Fa.noat "Processor" "_board").ok K,
  (He.Fa.noat "Processor" "_bar").ok K,
  (He.Fa.noat "Processor" "_stack").ok K,
  (He.Fa.noat "Processor" "_jobs").ok K,
  (He.Fa.noat "Processor" "_counts").ok K,
  (He.Fa.glo "Single").ok K,
  (He.Fa.cls "Single").ok K,
  (He.Fa.mkr "Single").ok K,
  (He.Fa.noat "Single" "_setup").ok K,
  (He.Fa.noat "Single" "_board").ok K,
  (He.Fa.noat "Single" "_processor").ok K,
  (He.Fa.noat "Single" "_now").ok K,
  (He.Fa.glo "LogPlay").ok K,
  (He.Fa.cls "LogPlay").ok K,
  (He.Fa.mkr "LogPlay").ok K,
  (He.Fa.noat "LogPlay" "_ranks").ok K,
  (He.Fa.noat "LogPlay" "_costs").ok K,
  (He.Fa.noat "LogPlay" "_now").ok K,
  (He.Fa.noat "LogPlay" "_least").ok K,
  (He.Fa.noat "LogPlay" "_stack").ok K,
  (He.Fa.noat "LogPlay" "_open").ok K,
  (He.Fa.meth "Setup" "__contains__").ok K,
  (He.Fa.meth "Setup" "__getitem__").ok K,
  (He.Fa.meth "Setup" "ticks_of").ok K,
  (He.Fa.meth "LogPlay" "is_formed").ok K,
  (He.Fa.meth "LogPlay" "go_on_until").ok K,
  (He.Fa.meth "LogPlay" "lets_by").ok K,
  (He.Fa.meth "LogPlay" "earliest_ring").ok K,
  (He.Fa.meth "LogPlay" "begin").ok K,
  (He.Fa.meth "LogPlay" "_go_by").ok K,
  (He.Fa.meth "Board" "_check_line").ok K,
  (He.Fa.meth "Board" "_is_edge").ok K,
  (He.Fa.meth "Board" "ring").ok K,
  (He.Fa.meth "Board" "begin").ok K,
  (He.Fa.meth "Board" "end").ok K,
  (He.Fa.meth "Board" "waits").ok K,
  (He.Fa.meth "Board" "waiting_lines").ok K,
  (He.Fa.meth "Board" "is_enabled").ok K,
  (He.Fa.meth "Board" "ready_lines").ok K,
  (He.Fa.meth "WorkQueue" "rows").ok K,
  (He.Fa.meth "WorkQueue" "is_empty").ok K,
  (He.Fa.meth "WorkQueue" "put").ok K,
  (He.Fa.meth "WorkQueue" "spend").ok K,
  (He.Fa.meth "Processor" "take").ok K,
  (He.Fa.meth "Processor" "go_on").ok K,
  (He.Fa.meth "Processor" "call_rows").ok K,
  (He.Fa.meth "Processor" "spent_ticks").ok K,
  (He.Fa.meth "Processor" "_lets_by").ok K,
  (He.Fa.meth "Processor" "_present_step").ok K,
  (He.Fa.meth "Processor" "_passes_flag").ok K,
  (He.Fa.meth "Processor" "_takes_no_tick").ok K,
  (He.Fa.meth "Processor" "_act").ok K,
  (He.Fa.meth "Processor" "_go_through").ok K,
  (He.Fa.meth "Processor" "_spend").ok K,
  (He.Fa.meth "Processor" "_spend_beside_calls").ok K,
  (He.Fa.meth "Single" "ring").ok K,
  (He.Fa.meth "Single" "tick").ok K,
  propB K "Setup" "order",
  propB K "Setup" "works",
  propB K "Setup" "lines",
  propB K "Setup" "is_plain",
  propB K "Single" "calls",
  propB K "Single" "spent",
  propB K "Single" "waiting",
  creadB K (aC "Setup" K),
  cvalB K (aC "Setup" K) "MAX_LINES" 12,
  cvalB K (aC "Setup" K) "MAX_WORKS" 8,
  cvalB K (aC "Setup" K) "MAX_FLAG" 7,
  tupAtB K (He.dflAt ("Setup", some "__init__") 0 K) [],
  PySem.W.fnIn K (He.ma K (aC "Setup" K) "__getitem__")]
def exM (K : PySem.W.Frag) : Bool := (exL K).all id
theorem ex_at {K : PySem.W.Frag} (h : exM K = true) (i : Nat) {b : Bool} (e : (exL K)[i]? = some b := by rfl) : b = true := List.all_eq_true.mp h b (List.mem_of_getElem? e)
theorem txt_of {K : PySem.W.Frag} {mg : Str → Option Value} {hp : Heap} (X : K.In hp) (G : hp.Ns mainGlobals mg) (h0 : exM K = true) : Txt K mg where
  n_len := have h := ex_at h0 0; He.free_ok X G h
  n_isinstance := have h := ex_at h0 1; He.free_ok X G h
  n_enumerate := have h := ex_at h0 2; He.free_ok X G h
  n_range := have h := ex_at h0 3; He.free_ok X G h
  n_tuple := have h := ex_at h0 4; He.free_ok X G h
  n_list := have h := ex_at h0 5; He.free_ok X G h
  n_dict := have h := ex_at h0 6; He.free_ok X G h
  n_sorted := have h := ex_at h0 7; He.free_ok X G h
  n_all := have h := ex_at h0 8; He.free_ok X G h
  n_sum := have h := ex_at h0 9; He.free_ok X G h
  n_max := have h := ex_at h0 10; He.free_ok X G h
  n_int := have h := ex_at h0 11; He.free_ok X G h
  n_bool := have h := ex_at h0 12; He.free_ok X G h
  n_str := have h := ex_at h0 13; He.free_ok X G h
  n_min := have h := ex_at h0 14; He.free_ok X G h
  n_set := have h := ex_at h0 15; He.free_ok X G h
  k_MAX_LETTERS := have h := ex_at h0 16; int_rel (He.int_ok X G h)
  k_MAX_RANK := have h := ex_at h0 17; int_rel (He.int_ok X G h)
  k_MAX_STEPS := have h := ex_at h0 18; int_rel (He.int_ok X G h)
  k_MAX_TICKS := have h := ex_at h0 19; int_rel (He.int_ok X G h)
  k_CALLED := have h := ex_at h0 20; int_rel (He.int_ok X G h)
  k_SPUN := have h := ex_at h0 21; int_rel (He.int_ok X G h)
  k_WORKED := have h := ex_at h0 22; int_rel (He.int_ok X G h)
  k_IDLE := have h := ex_at h0 23; int_rel (He.int_ok X G h)
  k_MOST_TICKS := have h := ex_at h0 24; int_rel (He.int_ok X G h)
  k_MAX_TICK := have h := ex_at h0 25; int_rel (He.int_ok X G h)
  k_KINDS := have h := ex_at h0 26; ⟨_, He.glo_ok X G h, rfl⟩
  v_KINDS := have h := ex_at h0 27; He.tupB_ok h
  k_ARGUMENTS := have h := ex_at h0 28; ⟨_, He.glo_ok X G h, rfl⟩
  v_ARGUMENTS := have h := ex_at h0 29; h
  f_is_integer := have h := ex_at h0 30; He.glo_ok X G h
  f_is_letters := have h := ex_at h0 31; He.glo_ok X G h
  f_is_name := have h := ex_at h0 32; He.glo_ok X G h
  f_is_line := have h := ex_at h0 33; He.glo_ok X G h
  f_is_work := have h := ex_at h0 34; He.glo_ok X G h
  f_is_step := have h := ex_at h0 35; He.glo_ok X G h
  f_spoilt_named := have h := ex_at h0 36; He.glo_ok X G h
  f_spoilt_line := have h := ex_at h0 37; He.glo_ok X G h
  f_spoilt_work := have h := ex_at h0 38; He.glo_ok X G h
  f_spoilt_handler := have h := ex_at h0 39; He.glo_ok X G h
  f_check_setup := have h := ex_at h0 40; He.glo_ok X G h
  f_put_changed := have h := ex_at h0 41; He.glo_ok X G h
  f__law_taken := have h := ex_at h0 42; He.glo_ok X G h
  f_law := have h := ex_at h0 43; He.glo_ok X G h
  f__law_mixed := have h := ex_at h0 44; He.glo_ok X G h
  f__law_plain := have h := ex_at h0 45; He.glo_ok X G h
  f_check_plain := have h := ex_at h0 46; He.glo_ok X G h
  f_first_impossible := have h := ex_at h0 47; He.glo_ok X G h
  f_ring_ranges := have h := ex_at h0 48; He.glo_ok X G h
  f_played_ranges := have h := ex_at h0 49; He.glo_ok X G h
  g_Setup := have h := ex_at h0 50; He.glo_ok X G h
  cl_Setup := have h := ex_at h0 51; He.cls_ok h
  mk_Setup := have h := ex_at h0 52; He.mkr_ok h
  t_Setup_lines := have h := ex_at h0 53; He.noat_ok h
  t_Setup_works := have h := ex_at h0 54; He.noat_ok h
  t_Setup_by_name := have h := ex_at h0 55; He.noat_ok h
  t_Setup_order := have h := ex_at h0 56; He.noat_ok h
  g_Board := have h := ex_at h0 57; He.glo_ok X G h
  cl_Board := have h := ex_at h0 58; He.cls_ok h
  mk_Board := have h := ex_at h0 59; He.mkr_ok h
  t_Board_setup := have h := ex_at h0 60; He.noat_ok h
  t_Board_rung := have h := ex_at h0 61; He.noat_ok h
  t_Board_disabled := have h := ex_at h0 62; He.noat_ok h
  t_Board_under_way := have h := ex_at h0 63; He.noat_ok h
  t_Board_flags := have h := ex_at h0 64; He.noat_ok h
  t_Board_merges := have h := ex_at h0 65; He.noat_ok h
  g_WorkQueue := have h := ex_at h0 66; He.glo_ok X G h
  cl_WorkQueue := have h := ex_at h0 67; He.cls_ok h
  mk_WorkQueue := have h := ex_at h0 68; He.mkr_ok h
  t_WorkQueue_ranks := have h := ex_at h0 69; He.noat_ok h
  t_WorkQueue_lengths := have h := ex_at h0 70; He.noat_ok h
  t_WorkQueue_rows := have h := ex_at h0 71; He.noat_ok h
  g_Processor := have h := ex_at h0 72; He.glo_ok X G h
  cl_Processor := have h := ex_at h0 73; He.cls_ok h
  mk_Processor := have h := ex_at h0 74; He.mkr_ok h
  t_Processor_setup := have h := ex_at h0 75; He.noat_ok h
  t_Processor_board := have h := ex_at h0 76; He.noat_ok h
  t_Processor_bar := have h := ex_at h0 77; He.noat_ok h
  t_Processor_stack := have h := ex_at h0 78; He.noat_ok h
  t_Processor_jobs := have h := ex_at h0 79; He.noat_ok h
  t_Processor_counts := have h := ex_at h0 80; He.noat_ok h
  g_Single := have h := ex_at h0 81; He.glo_ok X G h
  cl_Single := have h := ex_at h0 82; He.cls_ok h
  mk_Single := have h := ex_at h0 83; He.mkr_ok h
  t_Single_setup := have h := ex_at h0 84; He.noat_ok h
  t_Single_board := have h := ex_at h0 85; He.noat_ok h
  t_Single_processor := have h := ex_at h0 86; He.noat_ok h
  t_Single_now := have h := ex_at h0 87; He.noat_ok h
  g_LogPlay := have h := ex_at h0 88; He.glo_ok X G h
  cl_LogPlay := have h := ex_at h0 89; He.cls_ok h
  mk_LogPlay := have h := ex_at h0 90; He.mkr_ok h
  t_LogPlay_ranks := have h := ex_at h0 91; He.noat_ok h
  t_LogPlay_costs := have h := ex_at h0 92; He.noat_ok h
  t_LogPlay_now := have h := ex_at h0 93; He.noat_ok h
  t_LogPlay_least := have h := ex_at h0 94; He.noat_ok h
  t_LogPlay_stack := have h := ex_at h0 95; He.noat_ok h
  t_LogPlay_open := have h := ex_at h0 96; He.noat_ok h
  m_Setup_contains := have h := ex_at h0 97; He.meth_ok h
  m_Setup_getitem := have h := ex_at h0 98; He.meth_ok h
  m_Setup_ticks_of := have h := ex_at h0 99; He.meth_ok h
  m_LogPlay_is_formed := have h := ex_at h0 100; He.meth_ok h
  m_LogPlay_go_on_until := have h := ex_at h0 101; He.meth_ok h
  m_LogPlay_lets_by := have h := ex_at h0 102; He.meth_ok h
  m_LogPlay_earliest_ring := have h := ex_at h0 103; He.meth_ok h
  m_LogPlay_begin := have h := ex_at h0 104; He.meth_ok h
  m_LogPlay_go_by := have h := ex_at h0 105; He.meth_ok h
  m_Board_check_line := have h := ex_at h0 106; He.meth_ok h
  m_Board_is_edge := have h := ex_at h0 107; He.meth_ok h
  m_Board_ring := have h := ex_at h0 108; He.meth_ok h
  m_Board_begin := have h := ex_at h0 109; He.meth_ok h
  m_Board_end := have h := ex_at h0 110; He.meth_ok h
  m_Board_waits := have h := ex_at h0 111; He.meth_ok h
  m_Board_waiting_lines := have h := ex_at h0 112; He.meth_ok h
  m_Board_is_enabled := have h := ex_at h0 113; He.meth_ok h
  m_Board_ready_lines := have h := ex_at h0 114; He.meth_ok h
  m_WorkQueue_rows := have h := ex_at h0 115; He.meth_ok h
  m_WorkQueue_is_empty := have h := ex_at h0 116; He.meth_ok h
  m_WorkQueue_put := have h := ex_at h0 117; He.meth_ok h
  m_WorkQueue_spend := have h := ex_at h0 118; He.meth_ok h
  m_Processor_take := have h := ex_at h0 119; He.meth_ok h
  m_Processor_go_on := have h := ex_at h0 120; He.meth_ok h
  m_Processor_call_rows := have h := ex_at h0 121; He.meth_ok h
  m_Processor_spent_ticks := have h := ex_at h0 122; He.meth_ok h
  m_Processor_lets_by := have h := ex_at h0 123; He.meth_ok h
  m_Processor_present_step := have h := ex_at h0 124; He.meth_ok h
  m_Processor_passes_flag := have h := ex_at h0 125; He.meth_ok h
  m_Processor_takes_no_tick := have h := ex_at h0 126; He.meth_ok h
  m_Processor_act := have h := ex_at h0 127; He.meth_ok h
  m_Processor_go_through := have h := ex_at h0 128; He.meth_ok h
  m_Processor_spend := have h := ex_at h0 129; He.meth_ok h
  m_Processor_spend_beside_calls := have h := ex_at h0 130; He.meth_ok h
  m_Single_ring := have h := ex_at h0 131; He.meth_ok h
  m_Single_tick := have h := ex_at h0 132; He.meth_ok h
  p_Setup_order := have h := ex_at h0 133; propB_ok h
  p_Setup_works := have h := ex_at h0 134; propB_ok h
  p_Setup_lines := have h := ex_at h0 135; propB_ok h
  p_Setup_is_plain := have h := ex_at h0 136; propB_ok h
  p_Single_calls := have h := ex_at h0 137; propB_ok h
  p_Single_spent := have h := ex_at h0 138; propB_ok h
  p_Single_waiting := have h := ex_at h0 139; propB_ok h
  r_Setup := have h := ex_at h0 140; creadB_ok h
  c_Setup_MAX_LINES := have h := ex_at h0 141; cvalB_ok h
  c_Setup_MAX_WORKS := have h := ex_at h0 142; cvalB_ok h
  c_Setup_MAX_FLAG := have h := ex_at h0 143; cvalB_ok h
  d_Setup := have h := ex_at h0 144; tupAtB_ok h
  i_getitem := have h := ex_at h0 145; h
structure FnP (P : Program) (w : World) (K : PySem.W.Frag) (mg : Str → Option Value) (base : Heap) (k : Nat) (f : Addr) (sp : Sp) : Prop where
  ex : ∃ (fd : FuncData) (ps : List Str), FnOk P w K mg base CX0 k f fd ps sp ∧ Binds K fd ps []
theorem fun_c8 {K : PySem.W.Frag} {x qual : Str} {st : Stmt} {f : Addr} {fd : FuncData} {dvs : List V} {kws : List (Str × V)} (F : FunD K x qual (C8.fnArgs st) (C8.fnBody st) (C8.fnScope st) dvs kws f fd) : C8.Fun K x qual st f fd := by
  obtain ⟨oc, od, dV, kV, doc, pm, an, cdv, ct, osl, e, l, c, _⟩ := F.ex
  exact ⟨oc, od, dV, kV, doc, pm, an, cdv, ct, osl, e, l, c⟩
theorem fnP_mk {P : Program} {w : World} {K : PySem.W.Frag} {mg : Str → Option Value} {base : Heap} {m qual : Str} {st : Stmt} {f : Addr} {fd : FuncData} {N ps : List Str} {k : Nat} {sp : Sp} (F : C8.Fun K m qual st f fd) (b : Binds K fd ps []) (S : FnScope N ps (C8.fnScope st))
    (len : ∀ vs H Q E, sp vs H Q E → vs.length = ps.length)
    (hbody : ∀ (cdv : Value) (A : Around) (outer : List Env) (s : Shared) (H : Hp) (vs : List V) (Q : VK) (E : XK), Room k (A.deeper (envOfC qual (C8.fnScope st) s.heap.objs.size f cdv)) → sp vs H Q E →
      ∃ t, PSs (cxOf CX0 P w K mg base N qual (C8.fnScope st) f cdv A outer s H E).nox (C8.fnBody st) t ∧ t { nx := fun _ H' => Q .non H', rt := Q } (start N vs) H) : FnP P w K mg base (k + 1) f sp :=
  ⟨fd, ps, C8.fn0 F S len hbody, b⟩
end Cb

namespace Cb
open PySem PySem.Spec PyProof.Rows L2
abbrev AlM : Type := (Bool × List He5.FnW) × List (Option (List (Option (Str × Int))))
def obsM (ex : PySem.W.Frag → Bool) (fn : List He5.DefA) (ts : List He.Tab) (K : PySem.W.Frag) : AlM := ((ex K && fn.all fun d => d.ok K, fn.map fun d => He5.fnA K (d.at_ K)), ts.map fun t => He.dicW K (t.1 K))
def valM (fn : List He5.DefA) (ts : List He.Tab) (w : World) : AlM := ((true, fn.map He5.DefA.val), ts.map fun t => some (He.keysIn w.params t.2))
def SaysM (ex : PySem.W.Frag → Bool) (fn : List He5.DefA) (ts : List He.Tab) (w : World) (K : PySem.W.Frag) : Prop := obsM ex fn ts K = valM fn ts w
def asL : List Addr := List.range 1100
def obsMG (n : Nat) (ex : PySem.W.Frag → Bool) (fn : List He5.DefA) (ts : List He.Tab) (g : Addr → Option Obj) : AlM := obsM ex fn ts (He.frG g asL)
def hookM (n : Nat) (ex : PySem.W.Frag → Bool) (fn : List He5.DefA) (ts : List He.Tab) : PySem.W.Hook where
  α := AlM
  obs := fun s => obsMG n ex fn ts s.heap.get?
  val := fun w => valM fn ts w
  says := fun w h => ∃ K : PySem.W.Frag, K.In h ∧ SaysM ex fn ts w K
  of := fun _ _ e => ⟨_, He.frG_in, e⟩
  keeps := fun _ _ _ ⟨K, hK, c⟩ k => ⟨K, PySem.W.Frag.In.keeps hK k, c⟩
theorem obsMG_eq {n : Nat} {ex : PySem.W.Frag → Bool} {fn : List He5.DefA} {ts : List He.Tab} {g : Addr → Option Obj} {s : Shared} (h : ∀ a, g a = s.heap.get? a) : obsMG n ex fn ts g = (hookM n ex fn ts).obs s := by
  have e : g = s.heap.get? := funext h
  rw [e] <;> rfl
section
variable {ex : PySem.W.Frag → Bool} {fn : List He5.DefA} {ts : List He.Tab} {w : World} {K : PySem.W.Frag}
theorem SaysM.exok (c : SaysM ex fn ts w K) : ex K = true := (He.ba (show (ex K && fn.all fun d => d.ok K) = true from congrArg (fun z : AlM => z.1.1) c)).1
theorem SaysM.def_ (c : SaysM ex fn ts w K) (i : Nat) {d : He5.DefA} (h : fn[i]? = some d := by rfl) : ∃ fd, FunD K d.name d.qual d.params d.body d.scope (d.dvs K) (d.kws K) (d.at_ K) fd := by
  have c2 := (He.ba (show (ex K && fn.all fun d => d.ok K) = true from congrArg (fun z : AlM => z.1.1) c)).2
  have e : fn.map (fun d => He5.fnA K (d.at_ K)) = fn.map He5.DefA.val := congrArg (fun z : AlM => z.1.2) c
  have e2 : (fn.map fun d => He5.fnA K (d.at_ K))[i]? = (fn.map He5.DefA.val)[i]? := by rw [e]
  rw [List.getElem?_map, List.getElem?_map, h] at e2
  exact He5.DefA.funD (Option.some.inj e2) (List.all_eq_true.mp c2 d (List.mem_of_getElem? h))
theorem SaysM.tab (c : SaysM ex fn ts w K) (i : Nat) {t : He.Tab} (h : ts[i]? = some t := by rfl) : ∃ es n, KDict K w (t.1 K) es n := by
  have e : ts.map (fun t => He.dicW K (t.1 K)) = ts.map fun t => some (He.keysIn w.params t.2) := congrArg (fun z : AlM => z.2) c
  have e2 : (ts.map fun t => He.dicW K (t.1 K))[i]? = (ts.map fun t => some (He.keysIn w.params t.2))[i]? := by rw [e]
  rw [List.getElem?_map, List.getElem?_map, h] at e2
  exact He.dicW_ok (Option.some.inj e2)
end

def D_is_integer : He5.DefA := ⟨fun K => He.ga K "is_integer", "is_integer", "is_integer", C8.fnArgs s_is_integer, C8.fnBody s_is_integer, C8.fnScope s_is_integer, [], []⟩
def D_is_letters : He5.DefA := ⟨fun K => He.ga K "is_letters", "is_letters", "is_letters", C8.fnArgs s_is_letters, C8.fnBody s_is_letters, C8.fnScope s_is_letters, [], []⟩
def D_is_name : He5.DefA := ⟨fun K => He.ga K "is_name", "is_name", "is_name", C8.fnArgs s_is_name, C8.fnBody s_is_name, C8.fnScope s_is_name, [], []⟩
def D_is_line : He5.DefA := ⟨fun K => He.ga K "is_line", "is_line", "is_line", C8.fnArgs s_is_line, C8.fnBody s_is_line, C8.fnScope s_is_line, [], []⟩
def D_is_work : He5.DefA := ⟨fun K => He.ga K "is_work", "is_work", "is_work", C8.fnArgs s_is_work, C8.fnBody s_is_work, C8.fnScope s_is_work, [], []⟩
def D_is_step : He5.DefA := ⟨fun K => He.ga K "is_step", "is_step", "is_step", C8.fnArgs s_is_step, C8.fnBody s_is_step, C8.fnScope s_is_step, [], []⟩
def D_spoilt_named : He5.DefA := ⟨fun K => He.ga K "spoilt_named", "spoilt_named", "spoilt_named", C8.fnArgs s_spoilt_named, C8.fnBody s_spoilt_named, C8.fnScope s_spoilt_named, [], []⟩
def D_spoilt_line : He5.DefA := ⟨fun K => He.ga K "spoilt_line", "spoilt_line", "spoilt_line", C8.fnArgs s_spoilt_line, C8.fnBody s_spoilt_line, C8.fnScope s_spoilt_line, [], []⟩
def D_spoilt_work : He5.DefA := ⟨fun K => He.ga K "spoilt_work", "spoilt_work", "spoilt_work", C8.fnArgs s_spoilt_work, C8.fnBody s_spoilt_work, C8.fnScope s_spoilt_work, [], []⟩
def D_spoilt_handler : He5.DefA := ⟨fun K => He.ga K "spoilt_handler", "spoilt_handler", "spoilt_handler", C8.fnArgs s_spoilt_handler, C8.fnBody s_spoilt_handler, C8.fnScope s_spoilt_handler, [], []⟩
def D_Setup_init : He5.DefA := ⟨fun K => He.ma K (He.ga K "Setup") "__init__", "__init__", "Setup.__init__", C8.fnArgs s_Setup_init, C8.fnBody s_Setup_init, C8.fnScope s_Setup_init, [.adr (He.dflAt ("Setup", some "__init__") 0)], []⟩
def D_Setup_contains : He5.DefA := ⟨fun K => He.ma K (He.ga K "Setup") "__contains__", "__contains__", "Setup.__contains__", C8.fnArgs s_Setup_contains, C8.fnBody s_Setup_contains, C8.fnScope s_Setup_contains, [], []⟩
def D_Setup_getitem : He5.DefA := ⟨fun K => He.ma K (He.ga K "Setup") "__getitem__", "__getitem__", "Setup.__getitem__", C8.fnArgs s_Setup_getitem, C8.fnBody s_Setup_getitem, C8.fnScope s_Setup_getitem, [], []⟩
def D_Setup_lines : He5.DefA := ⟨prA "Setup" "lines", "lines", "Setup.lines", C8.fnArgs s_Setup_lines, C8.fnBody s_Setup_lines, C8.fnScope s_Setup_lines, [], []⟩
def D_Setup_works : He5.DefA := ⟨prA "Setup" "works", "works", "Setup.works", C8.fnArgs s_Setup_works, C8.fnBody s_Setup_works, C8.fnScope s_Setup_works, [], []⟩
def D_Setup_order : He5.DefA := ⟨prA "Setup" "order", "order", "Setup.order", C8.fnArgs s_Setup_order, C8.fnBody s_Setup_order, C8.fnScope s_Setup_order, [], []⟩
def D_Setup_is_plain : He5.DefA := ⟨prA "Setup" "is_plain", "is_plain", "Setup.is_plain", C8.fnArgs s_Setup_is_plain, C8.fnBody s_Setup_is_plain, C8.fnScope s_Setup_is_plain, [], []⟩
def D_Setup_ticks_of : He5.DefA := ⟨fun K => He.ma K (He.ga K "Setup") "ticks_of", "ticks_of", "Setup.ticks_of", C8.fnArgs s_Setup_ticks_of, C8.fnBody s_Setup_ticks_of, C8.fnScope s_Setup_ticks_of, [], []⟩
def D_check_setup : He5.DefA := ⟨fun K => He.ga K "check_setup", "check_setup", "check_setup", C8.fnArgs s_check_setup, C8.fnBody s_check_setup, C8.fnScope s_check_setup, [], []⟩
def D_check_plain : He5.DefA := ⟨fun K => He.ga K "check_plain", "check_plain", "check_plain", C8.fnArgs s_check_plain, C8.fnBody s_check_plain, C8.fnScope s_check_plain, [], []⟩
def D_first_impossible : He5.DefA := ⟨fun K => He.ga K "first_impossible", "first_impossible", "first_impossible", C8.fnArgs s_first_impossible, C8.fnBody s_first_impossible, C8.fnScope s_first_impossible, [], []⟩
def D_ring_ranges : He5.DefA := ⟨fun K => He.ga K "ring_ranges", "ring_ranges", "ring_ranges", C8.fnArgs s_ring_ranges, C8.fnBody s_ring_ranges, C8.fnScope s_ring_ranges, [], []⟩
def D_played_ranges : He5.DefA := ⟨fun K => He.ga K "played_ranges", "played_ranges", "played_ranges", C8.fnArgs s_played_ranges, C8.fnBody s_played_ranges, C8.fnScope s_played_ranges, [], []⟩
def D_LogPlay_init : He5.DefA := ⟨fun K => He.ma K (He.ga K "LogPlay") "__init__", "__init__", "LogPlay.__init__", C8.fnArgs s_LogPlay_init, C8.fnBody s_LogPlay_init, C8.fnScope s_LogPlay_init, [], []⟩
def D_LogPlay_is_formed : He5.DefA := ⟨fun K => He.ma K (He.ga K "LogPlay") "is_formed", "is_formed", "LogPlay.is_formed", C8.fnArgs s_LogPlay_is_formed, C8.fnBody s_LogPlay_is_formed, C8.fnScope s_LogPlay_is_formed, [], []⟩
def D_LogPlay_go_on_until : He5.DefA := ⟨fun K => He.ma K (He.ga K "LogPlay") "go_on_until", "go_on_until", "LogPlay.go_on_until", C8.fnArgs s_LogPlay_go_on_until, C8.fnBody s_LogPlay_go_on_until, C8.fnScope s_LogPlay_go_on_until, [], []⟩
def D_LogPlay_lets_by : He5.DefA := ⟨fun K => He.ma K (He.ga K "LogPlay") "lets_by", "lets_by", "LogPlay.lets_by", C8.fnArgs s_LogPlay_lets_by, C8.fnBody s_LogPlay_lets_by, C8.fnScope s_LogPlay_lets_by, [], []⟩
def D_LogPlay_earliest_ring : He5.DefA := ⟨fun K => He.ma K (He.ga K "LogPlay") "earliest_ring", "earliest_ring", "LogPlay.earliest_ring", C8.fnArgs s_LogPlay_earliest_ring, C8.fnBody s_LogPlay_earliest_ring, C8.fnScope s_LogPlay_earliest_ring, [], []⟩
def D_LogPlay_begin : He5.DefA := ⟨fun K => He.ma K (He.ga K "LogPlay") "begin", "begin", "LogPlay.begin", C8.fnArgs s_LogPlay_begin, C8.fnBody s_LogPlay_begin, C8.fnScope s_LogPlay_begin, [], []⟩
def D_LogPlay_go_by : He5.DefA := ⟨fun K => He.ma K (He.ga K "LogPlay") "_go_by", "_go_by", "LogPlay._go_by", C8.fnArgs s_LogPlay_go_by, C8.fnBody s_LogPlay_go_by, C8.fnScope s_LogPlay_go_by, [], []⟩
def D_put_changed : He5.DefA := ⟨fun K => He.ga K "put_changed", "put_changed", "put_changed", C8.fnArgs s_put_changed, C8.fnBody s_put_changed, C8.fnScope s_put_changed, [], []⟩
def D_Board_init : He5.DefA := ⟨fun K => He.ma K (He.ga K "Board") "__init__", "__init__", "Board.__init__", C8.fnArgs s_Board_init, C8.fnBody s_Board_init, C8.fnScope s_Board_init, [], []⟩
def D_Board_check_line : He5.DefA := ⟨fun K => He.ma K (He.ga K "Board") "_check_line", "_check_line", "Board._check_line", C8.fnArgs s_Board_check_line, C8.fnBody s_Board_check_line, C8.fnScope s_Board_check_line, [], []⟩
def D_Board_is_edge : He5.DefA := ⟨fun K => He.ma K (He.ga K "Board") "_is_edge", "_is_edge", "Board._is_edge", C8.fnArgs s_Board_is_edge, C8.fnBody s_Board_is_edge, C8.fnScope s_Board_is_edge, [], []⟩
def D_Board_ring : He5.DefA := ⟨fun K => He.ma K (He.ga K "Board") "ring", "ring", "Board.ring", C8.fnArgs s_Board_ring, C8.fnBody s_Board_ring, C8.fnScope s_Board_ring, [], []⟩
def D_Board_begin : He5.DefA := ⟨fun K => He.ma K (He.ga K "Board") "begin", "begin", "Board.begin", C8.fnArgs s_Board_begin, C8.fnBody s_Board_begin, C8.fnScope s_Board_begin, [], []⟩
def D_Board_end : He5.DefA := ⟨fun K => He.ma K (He.ga K "Board") "end", "end", "Board.end", C8.fnArgs s_Board_end, C8.fnBody s_Board_end, C8.fnScope s_Board_end, [], []⟩
def D_Board_is_enabled : He5.DefA := ⟨fun K => He.ma K (He.ga K "Board") "is_enabled", "is_enabled", "Board.is_enabled", C8.fnArgs s_Board_is_enabled, C8.fnBody s_Board_is_enabled, C8.fnScope s_Board_is_enabled, [], []⟩
def D_Board_waits : He5.DefA := ⟨fun K => He.ma K (He.ga K "Board") "waits", "waits", "Board.waits", C8.fnArgs s_Board_waits, C8.fnBody s_Board_waits, C8.fnScope s_Board_waits, [], []⟩
def D_Board_waiting_lines : He5.DefA := ⟨fun K => He.ma K (He.ga K "Board") "waiting_lines", "waiting_lines", "Board.waiting_lines", C8.fnArgs s_Board_waiting_lines, C8.fnBody s_Board_waiting_lines, C8.fnScope s_Board_waiting_lines, [], []⟩
def D_Board_ready_lines : He5.DefA := ⟨fun K => He.ma K (He.ga K "Board") "ready_lines", "ready_lines", "Board.ready_lines", C8.fnArgs s_Board_ready_lines, C8.fnBody s_Board_ready_lines, C8.fnScope s_Board_ready_lines, [], []⟩
def D_WorkQueue_init : He5.DefA := ⟨fun K => He.ma K (He.ga K "WorkQueue") "__init__", "__init__", "WorkQueue.__init__", C8.fnArgs s_WorkQueue_init, C8.fnBody s_WorkQueue_init, C8.fnScope s_WorkQueue_init, [], []⟩
def D_WorkQueue_rows : He5.DefA := ⟨fun K => He.ma K (He.ga K "WorkQueue") "rows", "rows", "WorkQueue.rows", C8.fnArgs s_WorkQueue_rows, C8.fnBody s_WorkQueue_rows, C8.fnScope s_WorkQueue_rows, [], []⟩
def D_WorkQueue_is_empty : He5.DefA := ⟨fun K => He.ma K (He.ga K "WorkQueue") "is_empty", "is_empty", "WorkQueue.is_empty", C8.fnArgs s_WorkQueue_is_empty, C8.fnBody s_WorkQueue_is_empty, C8.fnScope s_WorkQueue_is_empty, [], []⟩
def D_WorkQueue_put : He5.DefA := ⟨fun K => He.ma K (He.ga K "WorkQueue") "put", "put", "WorkQueue.put", C8.fnArgs s_WorkQueue_put, C8.fnBody s_WorkQueue_put, C8.fnScope s_WorkQueue_put, [.int 0], []⟩
def D_WorkQueue_spend : He5.DefA := ⟨fun K => He.ma K (He.ga K "WorkQueue") "spend", "spend", "WorkQueue.spend", C8.fnArgs s_WorkQueue_spend, C8.fnBody s_WorkQueue_spend, C8.fnScope s_WorkQueue_spend, [], []⟩
def D_Processor_init : He5.DefA := ⟨fun K => He.ma K (He.ga K "Processor") "__init__", "__init__", "Processor.__init__", C8.fnArgs s_Processor_init, C8.fnBody s_Processor_init, C8.fnScope s_Processor_init, [], []⟩
def D_Processor_take : He5.DefA := ⟨fun K => He.ma K (He.ga K "Processor") "take", "take", "Processor.take", C8.fnArgs s_Processor_take, C8.fnBody s_Processor_take, C8.fnScope s_Processor_take, [], []⟩
def D_Processor_go_on : He5.DefA := ⟨fun K => He.ma K (He.ga K "Processor") "go_on", "go_on", "Processor.go_on", C8.fnArgs s_Processor_go_on, C8.fnBody s_Processor_go_on, C8.fnScope s_Processor_go_on, [], []⟩
def D_Processor_call_rows : He5.DefA := ⟨fun K => He.ma K (He.ga K "Processor") "call_rows", "call_rows", "Processor.call_rows", C8.fnArgs s_Processor_call_rows, C8.fnBody s_Processor_call_rows, C8.fnScope s_Processor_call_rows, [], []⟩
def D_Processor_spent_ticks : He5.DefA := ⟨fun K => He.ma K (He.ga K "Processor") "spent_ticks", "spent_ticks", "Processor.spent_ticks", C8.fnArgs s_Processor_spent_ticks, C8.fnBody s_Processor_spent_ticks, C8.fnScope s_Processor_spent_ticks, [], []⟩
def D_Processor_lets_by : He5.DefA := ⟨fun K => He.ma K (He.ga K "Processor") "_lets_by", "_lets_by", "Processor._lets_by", C8.fnArgs s_Processor_lets_by, C8.fnBody s_Processor_lets_by, C8.fnScope s_Processor_lets_by, [], []⟩
def D_Processor_present_step : He5.DefA := ⟨fun K => He.ma K (He.ga K "Processor") "_present_step", "_present_step", "Processor._present_step", C8.fnArgs s_Processor_present_step, C8.fnBody s_Processor_present_step, C8.fnScope s_Processor_present_step, [], []⟩
def D_Processor_passes_flag : He5.DefA := ⟨fun K => He.ma K (He.ga K "Processor") "_passes_flag", "_passes_flag", "Processor._passes_flag", C8.fnArgs s_Processor_passes_flag, C8.fnBody s_Processor_passes_flag, C8.fnScope s_Processor_passes_flag, [], []⟩
def D_Processor_takes_no_tick : He5.DefA := ⟨fun K => He.ma K (He.ga K "Processor") "_takes_no_tick", "_takes_no_tick", "Processor._takes_no_tick", C8.fnArgs s_Processor_takes_no_tick, C8.fnBody s_Processor_takes_no_tick, C8.fnScope s_Processor_takes_no_tick, [], []⟩
def D_Processor_act : He5.DefA := ⟨fun K => He.ma K (He.ga K "Processor") "_act", "_act", "Processor._act", C8.fnArgs s_Processor_act, C8.fnBody s_Processor_act, C8.fnScope s_Processor_act, [], []⟩
def D_Processor_go_through : He5.DefA := ⟨fun K => He.ma K (He.ga K "Processor") "_go_through", "_go_through", "Processor._go_through", C8.fnArgs s_Processor_go_through, C8.fnBody s_Processor_go_through, C8.fnScope s_Processor_go_through, [], []⟩
def D_Processor_spend : He5.DefA := ⟨fun K => He.ma K (He.ga K "Processor") "_spend", "_spend", "Processor._spend", C8.fnArgs s_Processor_spend, C8.fnBody s_Processor_spend, C8.fnScope s_Processor_spend, [], []⟩
def D_Processor_spend_beside_calls : He5.DefA := ⟨fun K => He.ma K (He.ga K "Processor") "_spend_beside_calls", "_spend_beside_calls", "Processor._spend_beside_calls", C8.fnArgs s_Processor_spend_beside_calls, C8.fnBody s_Processor_spend_beside_calls, C8.fnScope s_Processor_spend_beside_calls, [], []⟩
def D_Single_init : He5.DefA := ⟨fun K => He.ma K (He.ga K "Single") "__init__", "__init__", "Single.__init__", C8.fnArgs s_Single_init, C8.fnBody s_Single_init, C8.fnScope s_Single_init, [], []⟩
def D_Single_ring : He5.DefA := ⟨fun K => He.ma K (He.ga K "Single") "ring", "ring", "Single.ring", C8.fnArgs s_Single_ring, C8.fnBody s_Single_ring, C8.fnScope s_Single_ring, [], []⟩
def D_Single_tick : He5.DefA := ⟨fun K => He.ma K (He.ga K "Single") "tick", "tick", "Single.tick", C8.fnArgs s_Single_tick, C8.fnBody s_Single_tick, C8.fnScope s_Single_tick, [], []⟩
def D_Single_waiting : He5.DefA := ⟨prA "Single" "waiting", "waiting", "Single.waiting", C8.fnArgs s_Single_waiting, C8.fnBody s_Single_waiting, C8.fnScope s_Single_waiting, [], []⟩
def D_Single_calls : He5.DefA := ⟨prA "Single" "calls", "calls", "Single.calls", C8.fnArgs s_Single_calls, C8.fnBody s_Single_calls, C8.fnScope s_Single_calls, [], []⟩
def D_Single_spent : He5.DefA := ⟨prA "Single" "spent", "spent", "Single.spent", C8.fnArgs s_Single_spent, C8.fnBody s_Single_spent, C8.fnScope s_Single_spent, [], []⟩
def D_law_taken : He5.DefA := ⟨fun K => He.ga K "_law_taken", "_law_taken", "_law_taken", C8.fnArgs s_law_taken, C8.fnBody s_law_taken, C8.fnScope s_law_taken, [], []⟩
def D_law_mixed : He5.DefA := ⟨fun K => He.ga K "_law_mixed", "_law_mixed", "_law_mixed", C8.fnArgs s_law_mixed, C8.fnBody s_law_mixed, C8.fnScope s_law_mixed, [], []⟩
def D_law_plain : He5.DefA := ⟨fun K => He.ga K "_law_plain", "_law_plain", "_law_plain", C8.fnArgs s_law_plain, C8.fnBody s_law_plain, C8.fnScope s_law_plain, [], []⟩
def D_law : He5.DefA := ⟨fun K => He.ga K "law", "law", "law", C8.fnArgs s_law, C8.fnBody s_law, C8.fnScope s_law, [], []⟩
def fn : List He5.DefA := [D_is_integer, D_is_letters, D_is_name, D_is_line, D_is_work, D_is_step, D_spoilt_named, D_spoilt_line, D_spoilt_work, D_spoilt_handler, D_Setup_init, D_Setup_contains, D_Setup_getitem, D_Setup_lines, D_Setup_works, D_Setup_order, D_Setup_is_plain, D_Setup_ticks_of, D_check_setup, D_check_plain, D_first_impossible, D_ring_ranges, D_played_ranges, D_LogPlay_init, D_LogPlay_is_formed, D_LogPlay_go_on_until, D_LogPlay_lets_by, D_LogPlay_earliest_ring, D_LogPlay_begin, D_LogPlay_go_by, D_put_changed, D_Board_init, D_Board_check_line, D_Board_is_edge, D_Board_ring, D_Board_begin, D_Board_end, D_Board_is_enabled, D_Board_waits, D_Board_waiting_lines, D_Board_ready_lines, D_WorkQueue_init, D_WorkQueue_rows, D_WorkQueue_is_empty, D_WorkQueue_put, D_WorkQueue_spend, D_Processor_init, D_Processor_take, D_Processor_go_on, D_Processor_call_rows, D_Processor_spent_ticks, D_Processor_lets_by, D_Processor_present_step, D_Processor_passes_flag, D_Processor_takes_no_tick, D_Processor_act, D_Processor_go_through, D_Processor_spend, D_Processor_spend_beside_calls, D_Single_init, D_Single_ring, D_Single_tick, D_Single_waiting, D_Single_calls, D_Single_spent, D_law_taken, D_law_mixed, D_law_plain, D_law]
def tsM : List He.Tab := [(fun K => He.ga K "ARGUMENTS", ["run", "ring", "quiet", "mask", "unmask", "set", "clear", "await", "bar", "later"])]
def nm0 : List Str := [("_wall" : Str), ("BellError" : Str), ("InvalidSetup" : Str), ("UnknownLine" : Str), ("NotLevel" : Str), ("InvalidNumber" : Str), ("InvalidFlag" : Str), ("NotPlain" : Str), ("InvalidLog" : Str), ("KINDS" : Str), ("MAX_LETTERS" : Str), ("MAX_RANK" : Str), ("MAX_STEPS" : Str), ("MAX_TICKS" : Str), ("ARGUMENTS" : Str), ("is_integer" : Str), ("check_number" : Str), ("is_letters" : Str), ("is_name" : Str), ("is_line" : Str), ("is_work" : Str), ("is_step" : Str), ("spoilt_named" : Str), ("spoilt_line" : Str), ("spoilt_work" : Str), ("spoilt_handler" : Str), ("Setup" : Str), ("check_setup" : Str), ("check_plain" : Str), ("MAX_TICK" : Str), ("first_impossible" : Str), ("ring_ranges" : Str), ("played_ranges" : Str), ("LogPlay" : Str), ("put_changed" : Str)]
def nm1 : List Str := [("check_flag" : Str), ("Board" : Str), ("WorkQueue" : Str), ("CALLED" : Str), ("SPUN" : Str), ("WORKED" : Str), ("IDLE" : Str), ("Processor" : Str), ("MOST_TICKS" : Str), ("Single" : Str), ("_law_taken" : Str), ("_law_mixed" : Str), ("_law_plain" : Str)]
def nms : List Str := nm0 ++ nm1
def fnp1 : List He5.DefA := [D_is_integer, D_is_letters, D_is_name, D_is_line, D_is_work, D_is_step, D_spoilt_named, D_spoilt_line, D_spoilt_work, D_spoilt_handler, D_Setup_init, D_Setup_contains, D_Setup_getitem, D_Setup_lines, D_Setup_works, D_Setup_order, D_Setup_is_plain, D_Setup_ticks_of, D_check_setup, D_check_plain, D_first_impossible, D_ring_ranges, D_played_ranges, D_LogPlay_init, D_LogPlay_is_formed, D_LogPlay_go_on_until, D_LogPlay_lets_by, D_LogPlay_earliest_ring, D_LogPlay_begin, D_LogPlay_go_by, D_put_changed, D_Board_init, D_Board_check_line, D_Board_is_edge, D_Board_ring]
def fnp2 : List He5.DefA := [D_Board_begin, D_Board_end, D_Board_is_enabled, D_Board_waits, D_Board_waiting_lines, D_Board_ready_lines, D_WorkQueue_init, D_WorkQueue_rows, D_WorkQueue_is_empty, D_WorkQueue_put, D_WorkQueue_spend, D_Processor_init, D_Processor_take, D_Processor_go_on, D_Processor_call_rows, D_Processor_spent_ticks, D_Processor_lets_by, D_Processor_present_step, D_Processor_passes_flag, D_Processor_takes_no_tick, D_Processor_act, D_Processor_go_through, D_Processor_spend, D_Processor_spend_beside_calls, D_Single_init, D_Single_ring, D_Single_tick, D_Single_waiting, D_Single_calls, D_Single_spent, D_law_taken, D_law_mixed, D_law_plain, D_law]
abbrev R : PySem.W.OpenRow := PySem.W.OpenLaw.row PySem.Challenge.rw_callbells_k35_whole_true_rings_are_in_ra
def obG (ex : PySem.W.Frag → Bool) (fn : List He5.DefA) (ts : List He.Tab) (s : PySem.W.SharedT) : AlM := obsMG 5 ex fn ts (HandSHeadRun.getT s)
abbrev hk : PySem.W.Hook := hookM 5 exM fn tsM
abbrev ob : PySem.W.SharedT → AlM := obG exM fn tsM
theorem cast_fn {ex : PySem.W.Frag → Bool} {f g : List He5.DefA} {ts : List He.Tab} {r : PySem.W.OpenRow} {q : Program} {M : Nat} {loose : List PySem.Str} {w : World} (e : f = g) (z : HandSHeadRun.RunEq r q (hookM 5 ex g ts) (obG ex g ts) M loose w) : HandSHeadRun.RunEq r q (hookM 5 ex f ts) (obG ex f ts) M loose w := by
  subst e
  exact z
theorem fn_eq : fn = ((([] : List He5.DefA) ++ fnp1) ++ fnp2) := rfl
theorem ob_eq (s : PySem.W.SharedT) : ob s = hk.obs s.abs := obsMG_eq (HandSHeadRun.getT_eq s)
theorem obs_join {ex : PySem.W.Frag → Bool} {f1 f2 : List He5.DefA} {ts : List He.Tab} {w : World} {K : PySem.W.Frag} (h1 : obsM ex f1 ts K = valM f1 ts w) (h2 : obsM (fun _ => true) f2 [] K = valM f2 [] w) : obsM ex (f1 ++ f2) ts K = valM (f1 ++ f2) ts w := by
  have a : (ex K && f1.all fun d => d.ok K) = true := congrArg (fun z : AlM => z.1.1) h1
  have a2 : f1.map (fun d => He5.fnA K (d.at_ K)) = f1.map He5.DefA.val := congrArg (fun z : AlM => z.1.2) h1
  have b := congrArg (fun z : AlM => z.2) h1
  have c : (true && f2.all fun d => d.ok K) = true := congrArg (fun z : AlM => z.1.1) h2
  have d : f2.map (fun d => He5.fnA K (d.at_ K)) = f2.map He5.DefA.val := congrArg (fun z : AlM => z.1.2) h2
  rw [Bool.true_and] at c
  refine Prod.ext (Prod.ext ?_ ?_) b
  · show (ex K && (f1 ++ f2).all fun d => d.ok K) = true
    rw [List.all_append, ← Bool.and_assoc, a, c]
    rfl
  · show (f1 ++ f2).map (fun d => He5.fnA K (d.at_ K)) = (f1 ++ f2).map He5.DefA.val
    rw [List.map_append, List.map_append, a2, d]
theorem join {ex : PySem.W.Frag → Bool} {f1 f2 : List He5.DefA} {ts : List He.Tab} {r : PySem.W.OpenRow} {q : Program} {M : Nat} {loose : List PySem.Str} {w : World} (z1 : HandSHeadRun.RunEq r q (hookM 5 ex f1 ts) (obG ex f1 ts) M loose w) (z2 : HandSHeadRun.RunEq r q (hookM 5 (fun _ => true) f2 []) (obG (fun _ => true) f2 []) M loose w) : HandSHeadRun.RunEq r q (hookM 5 ex (f1 ++ f2) ts) (obG ex (f1 ++ f2) ts) M loose w := by
  intro os
  have a := z1 os
  have b := z2 os
  revert a b
  generalize HandSHeadRun.endF (HandSHeadRun.stepQ (HandSHeadRun.denQ HandSHeadRun.tabQ) r.prog w) M r.prog w os = X
  intro a b
  cases X with
  | none => cases a
  | some s =>
    have a := Option.some.inj a
    have b := Option.some.inj b
    have a1 := congrArg Prod.fst a
    have a2 := congrArg (fun z => z.2.1) a
    have a3 := congrArg (fun z => z.2.2) a
    have b3 := congrArg (fun z => z.2.2) b
    refine congrArg some (Prod.ext a1 (Prod.ext a2 ?_))
    exact obs_join a3 b3
theorem run_f0 (w : World) : HandSHeadRun.RunEq R (PySem.W.view R.prog [57]) (hookM 5 exM [] tsM) (obG exM [] tsM) 30000 nms (w.withFollow "special-get-raises" false) := by
  intro os
  kernel_rfl
theorem run_f1 (w : World) : HandSHeadRun.RunEq R (PySem.W.view R.prog [57]) (hookM 5 (fun _ => true) fnp1 []) (obG (fun _ => true) fnp1 []) 30000 nms (w.withFollow "special-get-raises" false) := by
  intro os
  kernel_rfl
theorem run_f2 (w : World) : HandSHeadRun.RunEq R (PySem.W.view R.prog [57]) (hookM 5 (fun _ => true) fnp2 []) (obG (fun _ => true) fnp2 []) 30000 nms (w.withFollow "special-get-raises" false) := by
  intro os
  kernel_rfl
theorem run_f (w : World) : HandSHeadRun.RunEq R (PySem.W.view R.prog [57]) (hookM 5 exM fn tsM) (obG exM fn tsM) 30000 nms (w.withFollow "special-get-raises" false) := cast_fn fn_eq (join (join (run_f0 w) (run_f1 w)) (run_f2 w))
theorem run_t0 (w : World) : HandSHeadRun.RunEq R (PySem.W.view R.prog [57]) (hookM 5 exM [] tsM) (obG exM [] tsM) 30000 nms (w.withFollow "special-get-raises" true) := by
  intro os
  kernel_rfl
theorem run_t1 (w : World) : HandSHeadRun.RunEq R (PySem.W.view R.prog [57]) (hookM 5 (fun _ => true) fnp1 []) (obG (fun _ => true) fnp1 []) 30000 nms (w.withFollow "special-get-raises" true) := by
  intro os
  kernel_rfl
theorem run_t2 (w : World) : HandSHeadRun.RunEq R (PySem.W.view R.prog [57]) (hookM 5 (fun _ => true) fnp2 []) (obG (fun _ => true) fnp2 []) 30000 nms (w.withFollow "special-get-raises" true) := by
  intro os
  kernel_rfl
theorem run_t (w : World) : HandSHeadRun.RunEq R (PySem.W.view R.prog [57]) (hookM 5 exM fn tsM) (obG exM fn tsM) 30000 nms (w.withFollow "special-get-raises" true) := cast_fn fn_eq (join (join (run_t0 w) (run_t1 w)) (run_t2 w))
theorem run (w : World) : HandSHeadRun.RunEq R (PySem.W.view R.prog [57]) hk ob 30000 nms w :=
  PySem.W.byRow2 "special-get-raises" (P := fun w => HandSHeadRun.RunEq R (PySem.W.view R.prog [57]) hk ob 30000 nms w) run_f run_t w
end Cb

namespace Cb
open PySem PySem.Spec PyProof.Rows L2
def letters (x : Str) : Bool := Txt.isascii x && (Txt.isalpha x && Txt.islower x)
def nameOk (x : Str) : Prop := x.length ≤ 8 ∧ letters x = true
def kindS (b : Bool) : Str := if b then "level" else "edge"
def sp_is_integer : Sp := fun vs H Q _ => ∃ i lo hi : Int, vs = [.int i, .int lo, .int hi] ∧ Q (.bl (decide (lo ≤ i) && decide (i ≤ hi))) H
def sp_is_letters : Sp := fun vs H Q _ => ∃ x : Str, vs = [.str x] ∧ Q (.bl (letters x)) H
def sp_is_name : Sp := fun vs H Q _ => ∃ x : Str, vs = [.str x] ∧ x.length ≤ sizeLine ∧ Q (.bl (decide ((x.length : Int) ≤ 8) && letters x)) H
inductive SD where
  | run (n : Int)
  | later (w : Str)
def SD.word : SD → Str
  | run _ => "run"
  | later _ => "later"
def SD.arg : SD → V
  | run n => .int n
  | later w => .str w
def StepOk (ws : List Str) : SD → Prop
  | .run n => 1 ≤ n ∧ n ≤ 99
  | .later w => w ∈ ws
/-- a line at v: its name, level or edge, rank, steps -/
structure LineD where
  name : Str
  lvl : Bool
  rank : Int
  steps : List SD
structure WorkD where
  name : Str
  rank : Int
  ticks : Int
def StepAt (K : PySem.W.Frag) (H : Hp) (v : V) (s : SD) : Prop := ∃ a, v = .ref a ∧ SqT K H a [.str s.word, s.arg]
def LineAt (K : PySem.W.Frag) (H : Hp) (v : V) (l : LineD) : Prop := ∃ a h hs, v = .ref a ∧ SqT K H a [.str l.name, .str (kindS l.lvl), .int l.rank, .ref h] ∧ SqT K H h hs ∧ Paired (StepAt K H) hs l.steps
def WorkAt (K : PySem.W.Frag) (H : Hp) (v : V) (w : WorkD) : Prop := ∃ a, v = .ref a ∧ SqT K H a [.str w.name, .int w.rank, .int w.ticks]
structure LineOk (l : LineD) : Prop where
  nm : nameOk l.name
  r1 : 1 ≤ l.rank
  r9 : l.rank ≤ 9
  s1 : 1 ≤ l.steps.length
  s8 : l.steps.length ≤ 8
structure WorkOk (w : WorkD) : Prop where
  nm : nameOk w.name
  r1 : 1 ≤ w.rank
  r9 : w.rank ≤ 9
  t1 : 1 ≤ w.ticks
  t99 : w.ticks ≤ 99
def sp_is_line (K : PySem.W.Frag) : Sp := fun vs H Q _ => ∃ (v : V) (l : LineD), vs = [v] ∧ LineAt K H v l ∧ LineOk l ∧ Q (.bl true) H
def sp_is_work (K : PySem.W.Frag) : Sp := fun vs H Q _ => ∃ (v : V) (l : WorkD), vs = [v] ∧ WorkAt K H v l ∧ WorkOk l ∧ Q (.bl true) H
section
variable {P : Program} {w : World} {K : PySem.W.Frag} {mg : Str → Option Value} {base : Heap}
theorem small8 {n : Nat} (h : n ≤ 8) : n ≤ sizeLine := Nat.le_trans h (by decide)
theorem andT {a b : Bool} (h1 : a = true) (h2 : b = true) : (a && b) = true := by rw [h1, h2]; rfl

abbrev N_is_integer : List Str := ["value", "low", "high"]
theorem sc_is_integer : FnScope N_is_integer ["value", "low", "high"] (C8.fnScope s_is_integer) := C8.fnScope_by (by decide +kernel)
theorem ok_is_integer {fd : FuncData} (T : Txt K mg) (F : FunD K "is_integer" "is_integer" (C8.fnArgs s_is_integer) (C8.fnBody s_is_integer) (C8.fnScope s_is_integer) [] [] (He.ga K "is_integer") fd) :
    C8.Cal P w K mg base 1 "is_integer" sp_is_integer [] := by
  refine C8.cal0 (ds := []) ⟨fun_c8 F, T.f_is_integer, F.kp⟩ (F.bindsN fun _ _ _ _ _ _ us hl => match us, hl with | [_, _, _], _ => rfl) .nil sc_is_integer (fun vs H Q E h => ?_) (fun cdv A outer s H vs Q E hr h => ?_)
  · obtain ⟨_, _, _, rfl, _⟩ := h
    rfl
  · have nd := sc_is_integer.nd
    have hu := hu_of hr
    obtain ⟨i, lo, hi, rfl, q⟩ := h
    refine ⟨_, (pss_one (ps_ret (pe_and (pe_callB call_is (by rfl) T.n_isinstance (by decide +kernel) (pa_cons (pv 0) (pa_cons (pe_bltn (v := .ty "int") rfl T.n_int (by decide +kernel) rfl) pa_nil))) (pe_and (pe_not (pe_callB call_is (by rfl) T.n_isinstance (by decide +kernel) (pa_cons (pv 0) (pa_cons (pe_bltn (v := .ty "bool") rfl T.n_bool (by decide +kernel) rfl) pa_nil)))) (pe_one (pe_chain op_le op_le (pv 1) (pv 0) (pv 2))))))), ?_⟩
    refine ⟨_, rfl, _, _, _, _, rfl, ty_int, kb1, true, rfl, iteT ?_⟩
    refine ⟨_, rfl, _, _, _, _, rfl, ty_int, kb2, false, rfl, true, rfl, iteT ?_⟩
    refine ⟨_, rfl, _, rfl, _, _, rfl, rfl, _, rfl, ?_⟩
    cases e1 : decide (lo ≤ i) with
    | true =>
      rw [e1] at q
      refine iteT ⟨_, rfl, _, _, rfl, rfl, ?_⟩
      rw [Bool.true_and] at q
      exact q
    | false =>
      rw [e1, Bool.false_and] at q
      exact iteF q
abbrev N_is_letters : List Str := ["word"]
theorem sc_is_letters : FnScope N_is_letters ["word"] (C8.fnScope s_is_letters) := C8.fnScope_by (by decide +kernel)
theorem ok_is_letters {fd : FuncData} (T : Txt K mg) (F : FunD K "is_letters" "is_letters" (C8.fnArgs s_is_letters) (C8.fnBody s_is_letters) (C8.fnScope s_is_letters) [] [] (He.ga K "is_letters") fd) :
    C8.Cal P w K mg base 1 "is_letters" sp_is_letters [] := by
  refine C8.cal0 (ds := []) ⟨fun_c8 F, T.f_is_letters, F.kp⟩ (F.bindsN fun _ _ _ _ _ _ us hl => match us, hl with | [_], _ => rfl) .nil sc_is_letters (fun vs H Q E h => ?_) (fun cdv A outer s H vs Q E hr h => ?_)
  · obtain ⟨_, rfl, _⟩ := h
    rfl
  · have nd := sc_is_letters.nd
    have hu := hu_of hr
    obtain ⟨x, rfl, q⟩ := h
    refine ⟨_, (pss_one (ps_ret (pe_and (pe_bm0 PySem.F.plainAttrs_str PySem.F.slot_str_isascii PySem.F.type_str_isascii mt_isascii (pv 0)) (pe_and (pe_bm0 PySem.F.plainAttrs_str PySem.F.slot_str_isalpha PySem.F.type_str_isalpha mt_isalpha (pv 0)) (pe_one (pe_bm0 PySem.F.plainAttrs_str PySem.F.slot_str_islower PySem.F.type_str_islower mt_islower (pv 0))))))), ?_⟩
    refine ⟨_, rfl, rfl, _, rfl, rfl, True.intro, _, rfl, ?_⟩
    unfold letters at q
    cases e1 : Txt.isascii x with
    | false =>
      rw [e1, Bool.false_and] at q
      exact iteF q
    | true =>
      rw [e1, Bool.true_and] at q
      refine iteT ⟨_, rfl, rfl, _, rfl, rfl, True.intro, _, rfl, ?_⟩
      cases e2 : Txt.isalpha x with
      | false =>
        rw [e2, Bool.false_and] at q
        exact iteF q
      | true =>
        rw [e2, Bool.true_and] at q
        exact iteT ⟨_, rfl, rfl, _, rfl, rfl, True.intro, q⟩
abbrev N_is_name : List Str := ["value"]
theorem sc_is_name : FnScope N_is_name ["value"] (C8.fnScope s_is_name) := C8.fnScope_by (by decide +kernel)
theorem ok_is_name {fd : FuncData} (T : Txt K mg) (F : FunD K "is_name" "is_name" (C8.fnArgs s_is_name) (C8.fnBody s_is_name) (C8.fnScope s_is_name) [] [] (He.ga K "is_name") fd) (c_is_letters : C8.Cal P w K mg base 1 "is_letters" sp_is_letters []) :
    C8.Cal P w K mg base 2 "is_name" sp_is_name [] := by
  refine C8.cal0 (ds := []) ⟨fun_c8 F, T.f_is_name, F.kp⟩ (F.bindsN fun _ _ _ _ _ _ us hl => match us, hl with | [_], _ => rfl) .nil sc_is_name (fun vs H Q E h => ?_) (fun cdv A outer s H vs Q E hr h => ?_)
  · obtain ⟨_, rfl, _⟩ := h
    rfl
  · have nd := sc_is_name.nd
    have hu := hu_of hr
    obtain ⟨x, rfl, hz, q⟩ := h
    refine ⟨_, (pss_one (ps_ret (pe_and (pe_callB call_is (by rfl) T.n_isinstance (by decide +kernel) (pa_cons (pv 0) (pa_cons (pe_bltn (v := .ty "str") rfl T.n_str (by decide +kernel) rfl) pa_nil))) (pe_and (pe_cmpR op_le (pe_callB call_len_str (by rfl) T.n_len (by decide +kernel) (pa_cons (pv 0) pa_nil)) (C8.pe_gc rfl T.k_MAX_LETTERS) (nomark _)) (pe_one (C8.pe_c c_is_letters hr (by decide) rfl (pa_cons (pv 0) pa_nil))))))), ?_⟩
    refine ⟨_, rfl, _, _, _, _, rfl, ty_str, kb3, true, rfl, iteT ?_⟩
    refine ⟨_, rfl, _, rfl, hz, _, _, rfl, rfl, _, rfl, ?_⟩
    cases e1 : decide ((x.length : Int) ≤ 8) with
    | false =>
      rw [e1, Bool.false_and] at q
      exact iteF q
    | true =>
      rw [e1, Bool.true_and] at q
      exact iteT ⟨_, rfl, _, rfl, q⟩
end
end Cb

namespace Cb
open PySem PySem.Spec PyProof.Rows L2
section
theorem flat_strs (ws : List Str) : (ws.map V.str).all flatV = true := by simp [flatV]
theorem inV_strs {ws : List Str} {x : Str} (h : x ∈ ws) : inV (.str x) (ws.map V.str) = true := by
  unfold inV
  exact List.any_eq_true.mpr ⟨_, List.mem_map_of_mem h, by simp [eqV]⟩
theorem inV_not {ws : List Str} {x : Str} (h : x ∉ ws) : inV (.str x) (ws.map V.str) = false := by
  unfold inV
  refine List.any_eq_false.mpr fun y m => ?_
  obtain ⟨z, hz, rfl⟩ := List.mem_map.mp m
  simp only [eqV, beq_iff_eq]
  exact fun e => h (e ▸ hz)
@[reducible] def sp_is_step (K : PySem.W.Frag) : Sp := fun vs H Q _ => ∃ (v kd : V) (p : Addr) (mf : V) (st : SD) (ws : List Str), vs = [v, kd, .ref p, mf] ∧ StepAt K H v st ∧ SqL K H p (ws.map V.str) ∧ StepOk ws st ∧ Q (.bl true) H
variable {P : Program} {w : World} {K : PySem.W.Frag} {mg : Str → Option Value} {base : Heap}

abbrev N_is_line : List Str := ["line", "name", "kind", "rank", "handler"]
theorem sc_is_line : FnScope N_is_line ["line"] (C8.fnScope s_is_line) := C8.fnScope_by (by decide +kernel)
theorem ok_is_line {fd : FuncData} (T : Txt K mg) (F : FunD K "is_line" "is_line" (C8.fnArgs s_is_line) (C8.fnBody s_is_line) (C8.fnScope s_is_line) [] [] (He.ga K "is_line") fd) (c_is_integer : C8.Cal P w K mg base 1 "is_integer" sp_is_integer []) (c_is_name : C8.Cal P w K mg base 2 "is_name" sp_is_name []) :
    C8.Cal P w K mg base 3 "is_line" (sp_is_line K) [] := by
  refine C8.cal0 (ds := []) ⟨fun_c8 F, T.f_is_line, F.kp⟩ (F.bindsN fun _ _ _ _ _ _ us hl => match us, hl with | [_], _ => rfl) .nil sc_is_line (fun vs H Q E h => ?_) (fun cdv A outer s H vs Q E hr h => ?_)
  · obtain ⟨_, _, rfl, _⟩ := h
    rfl
  · have nd := sc_is_line.nd
    have hu := hu_of hr
    obtain ⟨v, l, rfl, ⟨a, g, hs, rfl, hl, hh, hp⟩, ok, q⟩ := h
    refine ⟨_, (pss_cons (ps_if (PW.pt (pw_or (pt_not (pt_val (pe_callB call_is (by rfl) T.n_isinstance (by decide +kernel) (pa_cons (pv 0) (pa_cons (pe_bltn (v := .ty "tuple") rfl T.n_tuple (by decide +kernel) rfl) pa_nil))))) (pw_or1 (pt_cmpR op_ne (pe_callB call_len_seq (by rfl) T.n_len (by decide +kernel) (pa_cons (pv 0) pa_nil)) pe_int (nomark _))))) (pss_one (ps_ret pe_bl)) pss_nil)
      (pss_cons (ps_asg (pv 0) (pg_tup rfl (pgs_cons (pg_name (i := 1) nd rfl (Or.inl rfl)) (pgs_cons (pg_name (i := 2) nd rfl (Or.inl rfl)) (pgs_cons (pg_name (i := 3) nd rfl (Or.inl rfl)) (pgs_cons (pg_name (i := 4) nd rfl (Or.inl rfl)) pgs_nil))))))
      (pss_cons (ps_if (PW.pt (pw_or (pt_not (pt_val (C8.pe_c c_is_name hr (by decide) rfl (pa_cons (pv 1) pa_nil)))) (pw_or (pt_cmpR op_notIn_seq (pv 2) (C8.pe_gc rfl T.k_KINDS) (by rfl)) (pw_or1 (pt_not (pt_val (C8.pe_c c_is_integer hr (by decide) rfl (pa_cons (pv 3) (pa_cons pe_int (pa_cons (C8.pe_gc rfl T.k_MAX_RANK) pa_nil)))))))))) (pss_one (ps_ret pe_bl)) pss_nil)
      (pss_one (ps_ret (pe_and (pe_callB call_is (by rfl) T.n_isinstance (by decide +kernel) (pa_cons (pv 4) (pa_cons (pe_bltn (v := .ty "tuple") rfl T.n_tuple (by decide +kernel) rfl) pa_nil))) (pe_one (pe_chain op_le op_le pe_int (pe_callB call_len_seq (by rfl) T.n_len (by decide +kernel) (pa_cons (pv 4) pa_nil)) (C8.pe_gc rfl T.k_MAX_STEPS))))))))), ?_⟩
    refine ⟨_, rfl, _, _, _, _, rfl, ty_tup hl, kb4, true, rfl, iteF ?_⟩
    refine ⟨_, rfl, _, _, rfl, .inr hl, rfl, false, rfl, iteF ?_⟩
    refine ⟨_, rfl, _, _, rfl, hl, rfl, _, _, rfl, _, _, rfl, _, _, rfl, _, _, rfl, rfl, ?_⟩
    refine ⟨_, rfl, l.name, rfl, small8 ok.nm.1, true, congrArg V.bl (andT (decide_eq_true (by have := ok.nm.1; omega)) ok.nm.2), iteF ?_⟩
    refine ⟨_, rfl, _, _, rfl, .inr (T.v_KINDS _), rfl, rfl, false, ?_, iteF ?_⟩
    · cases l.lvl <;> rfl
    refine ⟨_, rfl, _, _, _, rfl, true, congrArg V.bl (andT (decide_eq_true ok.r1) (decide_eq_true ok.r9)), iteF ?_⟩
    exact ⟨_, rfl, _, _, _, _, rfl, ty_tup hh, kb4, true, rfl, iteT ⟨_, rfl, _, _, rfl, .inr hh, _, _, rfl, rfl, true, congrArg V.bl (decide_eq_true (by have := ok.s1; have := hp.length; omega)), iteT ⟨_, _, rfl, rfl, (congrArg (fun b => Q (.bl b) H) (decide_eq_true (by have := ok.s8; have := hp.length; omega))).mpr q⟩⟩⟩
abbrev N_is_work : List Str := ["work", "name", "rank", "ticks"]
theorem sc_is_work : FnScope N_is_work ["work"] (C8.fnScope s_is_work) := C8.fnScope_by (by decide +kernel)
theorem ok_is_work {fd : FuncData} (T : Txt K mg) (F : FunD K "is_work" "is_work" (C8.fnArgs s_is_work) (C8.fnBody s_is_work) (C8.fnScope s_is_work) [] [] (He.ga K "is_work") fd) (c_is_integer : C8.Cal P w K mg base 1 "is_integer" sp_is_integer []) (c_is_name : C8.Cal P w K mg base 2 "is_name" sp_is_name []) :
    C8.Cal P w K mg base 3 "is_work" (sp_is_work K) [] := by
  refine C8.cal0 (ds := []) ⟨fun_c8 F, T.f_is_work, F.kp⟩ (F.bindsN fun _ _ _ _ _ _ us hl => match us, hl with | [_], _ => rfl) .nil sc_is_work (fun vs H Q E h => ?_) (fun cdv A outer s H vs Q E hr h => ?_)
  · obtain ⟨_, _, rfl, _⟩ := h
    rfl
  · have nd := sc_is_work.nd
    have hu := hu_of hr
    obtain ⟨v, l, rfl, ⟨a, rfl, hl⟩, ok, q⟩ := h
    refine ⟨_, (pss_cons (ps_if (PW.pt (pw_or (pt_not (pt_val (pe_callB call_is (by rfl) T.n_isinstance (by decide +kernel) (pa_cons (pv 0) (pa_cons (pe_bltn (v := .ty "tuple") rfl T.n_tuple (by decide +kernel) rfl) pa_nil))))) (pw_or1 (pt_cmpR op_ne (pe_callB call_len_seq (by rfl) T.n_len (by decide +kernel) (pa_cons (pv 0) pa_nil)) pe_int (nomark _))))) (pss_one (ps_ret pe_bl)) pss_nil)
      (pss_cons (ps_asg (pv 0) (pg_tup rfl (pgs_cons (pg_name (i := 1) nd rfl (Or.inl rfl)) (pgs_cons (pg_name (i := 2) nd rfl (Or.inl rfl)) (pgs_cons (pg_name (i := 3) nd rfl (Or.inl rfl)) pgs_nil)))))
      (pss_one (ps_ret (pe_and (C8.pe_c c_is_name hr (by decide) rfl (pa_cons (pv 1) pa_nil)) (pe_and (C8.pe_c c_is_integer hr (by decide) rfl (pa_cons (pv 2) (pa_cons pe_int (pa_cons (C8.pe_gc rfl T.k_MAX_RANK) pa_nil)))) (pe_one (C8.pe_c c_is_integer hr (by decide) rfl (pa_cons (pv 3) (pa_cons pe_int (pa_cons (C8.pe_gc rfl T.k_MAX_TICKS) pa_nil))))))))))), ?_⟩
    refine ⟨_, rfl, _, _, _, _, rfl, ty_tup hl, kb4, true, rfl, iteF ?_⟩
    refine ⟨_, rfl, _, _, rfl, .inr hl, rfl, false, rfl, iteF ?_⟩
    refine ⟨_, rfl, _, _, rfl, hl, rfl, _, _, rfl, _, _, rfl, _, _, rfl, rfl, ?_⟩
    refine ⟨_, rfl, l.name, rfl, small8 ok.nm.1, true, congrArg V.bl (andT (decide_eq_true (by have := ok.nm.1; omega)) ok.nm.2), iteT ?_⟩
    refine ⟨_, rfl, _, _, _, rfl, true, congrArg V.bl (andT (decide_eq_true ok.r1) (decide_eq_true ok.r9)), iteT ?_⟩
    exact ⟨_, rfl, _, _, _, rfl, (congrArg (fun b => Q (.bl b) H) (andT (decide_eq_true ok.t1) (decide_eq_true ok.t99))).mpr q⟩
abbrev N_is_step : List Str := ["step", "kinds", "works", "max_flag", "word", "what", "asked"]
theorem sc_is_step : FnScope N_is_step ["step", "kinds", "works", "max_flag"] (C8.fnScope s_is_step) := C8.fnScope_by (by decide +kernel)
theorem ok_is_step {fd : FuncData} (T : Txt K mg) (F : FunD K "is_step" "is_step" (C8.fnArgs s_is_step) (C8.fnBody s_is_step) (C8.fnScope s_is_step) [] [] (He.ga K "is_step") fd) (c_is_integer : C8.Cal P w K mg base 1 "is_integer" sp_is_integer []) {es : Array DictEntry} {nn : Nat} (D : KDict K w (He.ga K "ARGUMENTS") es nn) :
    C8.Cal P w K mg base 3 "is_step" (sp_is_step K) [] := by
  refine C8.cal0 (ds := []) ⟨fun_c8 F, T.f_is_step, F.kp⟩ (F.bindsN fun _ _ _ _ _ _ us hl => match us, hl with | [_, _, _, _], _ => rfl) .nil sc_is_step (fun vs H Q E h => ?_) (fun cdv A outer s H vs Q E hr h => ?_)
  · obtain ⟨_, _, _, _, _, _, rfl, _⟩ := h
    rfl
  · have nd := sc_is_step.nd
    have hu := hu_of hr
    obtain ⟨v, kd, p, mf, st, ws, rfl, ⟨a, rfl, hl⟩, hw, ok, q⟩ := h
    refine ⟨_, (pss_cons (ps_if (PW.pt (pw_or (pt_not (pt_val (pe_callB call_is (by rfl) T.n_isinstance (by decide +kernel) (pa_cons (pv 0) (pa_cons (pe_bltn (v := .ty "tuple") rfl T.n_tuple (by decide +kernel) rfl) pa_nil))))) (pw_or1 (pt_cmpR op_ne (pe_callB call_len_seq (by rfl) T.n_len (by decide +kernel) (pa_cons (pv 0) pa_nil)) pe_int (nomark _))))) (pss_one (ps_ret pe_bl)) pss_nil)
      (pss_cons (ps_asg (pv 0) (pg_tup rfl (pgs_cons (pg_name (i := 4) nd rfl (Or.inl rfl)) (pgs_cons (pg_name (i := 5) nd rfl (Or.inl rfl)) pgs_nil))))
      (pss_cons (ps_if (PW.pt (pw_or (pt_not (pt_val (pe_callB call_is (by rfl) T.n_isinstance (by decide +kernel) (pa_cons (pv 4) (pa_cons (pe_bltn (v := .ty "str") rfl T.n_str (by decide +kernel) rfl) pa_nil))))) (pw_or1 (pt_cmpR (op_notIn_kd D) (pv 4) (C8.pe_gc rfl T.k_ARGUMENTS) (by rfl))))) (pss_one (ps_ret pe_bl)) pss_nil)
      (pss_cons (ps_set (i := 6) nd rfl (Or.inl rfl) (pe_ix ix_kdict (C8.pe_gc rfl T.k_ARGUMENTS) (pv 4) (fun _ _ => rfl)))
      (pss_cons (ps_if (pt_cmpR op_eq (pv 6) pe_str (nomark _)) (pss_one (ps_ret (C8.pe_c c_is_integer hr (by decide) rfl (pa_cons (pv 5) (pa_cons pe_int (pa_cons (C8.pe_gc rfl T.k_MAX_TICKS) pa_nil)))))) pss_nil)
      (pss_cons (ps_if (pt_cmpR op_eq (pv 6) pe_str (nomark _)) (pss_one (ps_ret (C8.pe_c c_is_integer hr (by decide) rfl (pa_cons (pv 5) (pa_cons pe_int (pa_cons (pv 3) pa_nil)))))) pss_nil)
      (pss_cons (ps_if (pt_cmpR op_eq (pv 6) pe_str (nomark _)) (pss_one (ps_ret (C8.pe_c c_is_integer hr (by decide) rfl (pa_cons (pv 5) (pa_cons pe_int (pa_cons (C8.pe_gc rfl T.k_MAX_RANK) pa_nil)))))) pss_nil)
      (pss_cons (ps_if (pt_not (pt_val (pe_callB call_is (by rfl) T.n_isinstance (by decide +kernel) (pa_cons (pv 5) (pa_cons (pe_bltn (v := .ty "str") rfl T.n_str (by decide +kernel) rfl) pa_nil))))) (pss_one (ps_ret pe_bl)) pss_nil)
      (pss_cons (ps_if (pt_cmpR op_eq (pv 6) pe_str (nomark _)) (pss_one (ps_ret (pe_cmpR op_in_seq (pv 5) (pv 2) (by rfl)))) pss_nil)
      (pss_one (ps_ret (pe_and (pe_cmp (pc_din hu (pv 5) (pv 1)) rfl) (pe_one (pe_or (pe_cmpR op_eq (pv 6) pe_str (nomark _)) (pe_one (pe_cmpR op_eq (pe_dget hu (pv 1) (pv 5) (fun _ _ => rfl)) (pv 6) (nomark _))))))))))))))))), ?_⟩
    refine ⟨_, rfl, _, _, _, _, rfl, ty_tup hl, kb4, true, rfl, iteF ?_⟩
    refine ⟨_, rfl, _, _, rfl, .inr hl, rfl, false, rfl, iteF ?_⟩
    refine ⟨_, rfl, _, _, rfl, hl, rfl, _, _, rfl, _, _, rfl, rfl, ?_⟩
    refine ⟨_, rfl, _, _, _, _, rfl, ty_str, kb3, true, rfl, iteF ?_⟩
    cases st with
    | run n =>
      obtain ⟨u, hu1, hu2⟩ := He.valsB_ok T.v_ARGUMENTS (q := ("run", .str "ticks")) (List.mem_of_getElem? (i := 0) rfl)
      refine ⟨_, rfl, _, _, rfl, rfl, hu1, false, rfl, iteF ?_⟩
      refine ⟨_, rfl, _, _, _, rfl, rfl, ⟨_, _, u, D.at_, D.lit, hu1, hu2⟩, ?_⟩
      exact ⟨_, rfl, rfl, true, rfl, iteT ⟨_, rfl, _, _, _, rfl, (congrArg (fun b => Q (.bl b) H) (andT (decide_eq_true ok.1) (decide_eq_true ok.2))).mpr q⟩⟩
    | later x =>
      obtain ⟨u, hu1, hu2⟩ := He.valsB_ok T.v_ARGUMENTS (q := ("later", .str "work")) (List.mem_of_getElem? (i := 9) rfl)
      refine ⟨_, rfl, _, _, rfl, rfl, hu1, false, rfl, iteF ?_⟩
      refine ⟨_, rfl, _, _, _, rfl, rfl, ⟨_, _, u, D.at_, D.lit, hu1, hu2⟩, ?_⟩
      refine ⟨_, rfl, rfl, false, rfl, iteF ?_⟩
      refine ⟨_, rfl, rfl, false, rfl, iteF ?_⟩
      refine ⟨_, rfl, rfl, false, rfl, iteF ?_⟩
      refine ⟨_, rfl, _, _, _, _, rfl, ty_str, kb3, true, rfl, iteF ?_⟩
      refine ⟨_, rfl, rfl, true, rfl, iteT ?_⟩
      exact ⟨_, rfl, _, rfl, _, _, rfl, .inl hw, rfl, flat_strs ws, (congrArg (fun b => Q (.bl b) H) (inV_strs ok)).mpr q⟩
end
end Cb

namespace Cb
open PySem PySem.Spec PyProof.Rows L2

theorem pget {α β : Type} {F : α → β → Prop} : ∀ {l₁ : List α} {l₂ : List β}, Paired F l₁ l₂ → ∀ {i : Nat} {a : α}, l₁[i]? = some a → ∃ b, l₂[i]? = some b ∧ F a b
  | _, _, .nil, i, a, h => by simp at h
  | _, _, .cons f p, 0, a, h => ⟨_, rfl, by simp at h; exact h ▸ f⟩
  | _, _, .cons f p, i + 1, a, h => by
    simp at h
    simpa using pget p h
theorem pgetr {α β : Type} {F : α → β → Prop} : ∀ {l₁ : List α} {l₂ : List β}, Paired F l₁ l₂ → ∀ {i : Nat} {b : β}, l₂[i]? = some b → ∃ a, l₁[i]? = some a ∧ F a b
  | _, _, .nil, i, a, h => by simp at h
  | _, _, .cons f p, 0, a, h => ⟨_, rfl, by simp at h; exact h ▸ f⟩
  | _, _, .cons f p, i + 1, a, h => by
    simp at h
    simpa using pgetr p h
theorem StepAt.up {K : PySem.W.Frag} {H H' : Hp} {v : V} {s : SD} (e : Same H H') (h : StepAt K H v s) : StepAt K H' v s := h.elim fun a h => ⟨a, h.1, Same.tup e h.2⟩
theorem LineAt.up {K : PySem.W.Frag} {H H' : Hp} {v : V} {s : LineD} (e : Same H H') (h : LineAt K H v s) : LineAt K H' v s := by
  obtain ⟨a, g, hs, rfl, h1, h2, h3⟩ := h
  exact ⟨a, g, hs, rfl, Same.tup e h1, Same.tup e h2, h3.mono fun _ _ z => StepAt.up e z⟩
theorem WorkAt.up {K : PySem.W.Frag} {H H' : Hp} {v : V} {s : WorkD} (e : Same H H') (h : WorkAt K H v s) : WorkAt K H' v s := h.elim fun a h => ⟨a, h.1, Same.tup e h.2⟩
theorem take_snoc {α : Type} {l : List α} {i : Nat} {x : α} (h : l[i]? = some x) : l.take (i + 1) = l.take i ++ [x] := by
  rw [List.take_add_one, h]
  rfl
theorem nodup_take {α : Type} {l : List α} (h : l.Nodup) {i : Nat} {x : α} (hx : l[i]? = some x) : x ∉ l.take i := by
  intro m
  obtain ⟨j, hj, e⟩ := List.mem_iff_getElem.mp m
  have hj2 : j < i := by simp at hj; omega
  have hi : i < l.length := by
    rcases Nat.lt_or_ge i l.length with z | z
    · exact z
    · rw [List.getElem?_eq_none z] at hx; cases hx
  rw [List.getElem?_eq_getElem hi] at hx
  have e1 : l[j]'(by omega) = l[i] := by
    rw [List.getElem_take] at e
    exact e.trans (Option.some.inj hx).symm
  exact absurd ((List.getElem_inj h).mp e1) (by omega)
structure LinesAt (K : PySem.W.Frag) (H : Hp) (a : Addr) (ls : List LineD) : Prop where
  ex : ∃ xs, SqT K H a xs ∧ Paired (LineAt K H) xs ls
structure WorksAt (K : PySem.W.Frag) (H : Hp) (a : Addr) (ls : List WorkD) : Prop where
  ex : ∃ xs, SqT K H a xs ∧ Paired (WorkAt K H) xs ls
theorem LinesAt.up {K : PySem.W.Frag} {H H' : Hp} {a : Addr} {s : List LineD} (e : Same H H') (h : LinesAt K H a s) : LinesAt K H' a s := h.ex.elim fun xs h => ⟨xs, Same.tup e h.1, h.2.mono fun _ _ z => LineAt.up e z⟩
theorem WorksAt.up {K : PySem.W.Frag} {H H' : Hp} {a : Addr} {s : List WorkD} (e : Same H H') (h : WorksAt K H a s) : WorksAt K H' a s := h.ex.elim fun xs h => ⟨xs, Same.tup e h.1, h.2.mono fun _ _ z => WorkAt.up e z⟩
structure LsOk (ls : List LineD) : Prop where
  ok : ∀ l ∈ ls, LineOk l
  nd : (ls.map (·.name)).Nodup
  ne : ls ≠ []
  le : ls.length ≤ 12
structure WsOk (ls : List WorkD) : Prop where
  ok : ∀ l ∈ ls, WorkOk l
  nd : (ls.map (·.name)).Nodup
  le : ls.length ≤ 8
def names (ls : List LineD) : List V := ls.map fun l => .str l.name
def wnames (ls : List WorkD) : List V := ls.map fun l => .str l.name
theorem Sep.c0 {K0 H : Hp} {L : List (Addr × HO)} {a : Addr} {o : HO} (s : Sep K0 H ((a, o) :: L)) : H a = some o := s.cs.1
theorem Sep.c1 {K0 H : Hp} {L : List (Addr × HO)} {a : Addr} {o : HO} {e1 : Addr × HO} (s : Sep K0 H (e1 :: (a, o) :: L)) : H a = some o := s.cs.2.1
theorem flat_strs2 (ls : List LineD) : (names ls).all flatV = true := by simp [names, flatV]
theorem flat_strs3 (ls : List WorkD) : (wnames ls).all flatV = true := by simp [wnames, flatV]
theorem inV_nms {ls : List LineD} (h : (ls.map (·.name)).Nodup) {i : Nat} {l : LineD} (hl : ls[i]? = some l) : inV (.str l.name) (names (ls.take i)) = false := by
  have e : names (ls.take i) = ((ls.map (·.name)).take i).map V.str := by simp [names, List.map_take, Function.comp_def]
  rw [e]
  exact inV_not (nodup_take h (by simp [hl]))
theorem inV_wnms {ls : List WorkD} (h : (ls.map (·.name)).Nodup) {i : Nat} {l : WorkD} (hl : ls[i]? = some l) : inV (.str l.name) (wnames (ls.take i)) = false := by
  have e : wnames (ls.take i) = ((ls.map (·.name)).take i).map V.str := by simp [wnames, List.map_take, Function.comp_def]
  rw [e]
  exact inV_not (nodup_take h (by simp [hl]))
theorem atIn {α : Type} {l : List α} {n : Nat} {v : α} (h : l[n]? = some v) : atI l (n : Nat) = some v := by
  have hn : n < l.length := by
    rcases Nat.lt_or_ge n l.length with z | z
    · exact z
    · rw [List.getElem?_eq_none z] at h; cases h
  unfold atI ixN
  rw [if_pos (by omega), if_pos (by omega)]
  simpa using h
theorem atI0 {v : V} {l : List V} : atI (v :: l) 0 = some v := by simp [atI, ixN]
theorem Same.tr {A B C : Hp} (h : Same A B) (g : Same B C) : Same A C := fun b o z => g b o (h b o z)
theorem sml {n m : Nat} (h : n ≤ m) (hm : m < 4096) : n < sizeLine := Nat.lt_of_lt_of_le (Nat.lt_of_le_of_lt h hm) (by decide)
theorem Sep.put0 {K0 H : Hp} {L : List (Addr × HO)} {a : Addr} {o o' : HO} (s : Sep K0 H ((a, o) :: L)) : Sep K0 (upd H a o') ((a, o') :: L) := Sep.put (L1 := []) s
def NmAt (K : PySem.W.Frag) (H : Hp) (v : V) (n : Str) : Prop := ∃ t l, v = .ref t ∧ SqT K H t (.str n :: l)
theorem NmAt.up {K : PySem.W.Frag} {H H' : Hp} {v : V} {s : Str} (e : Same H H') (h : NmAt K H v s) : NmAt K H' v s := h.elim fun a h => h.elim fun l h => ⟨a, l, h.1, Same.tup e h.2⟩
theorem nm_of {K : PySem.W.Frag} {H : Hp} : ∀ {xs : List V} {ls : List LineD}, Paired (LineAt K H) xs ls → Paired (NmAt K H) xs (ls.map (·.name))
  | _, _, .nil => .nil
  | _, _, .cons ⟨a, h, hs, e, h1, _⟩ p => .cons ⟨a, _, e, h1⟩ (nm_of p)
theorem nw_of {K : PySem.W.Frag} {H : Hp} : ∀ {xs : List V} {ls : List WorkD}, Paired (WorkAt K H) xs ls → Paired (NmAt K H) xs (ls.map (·.name))
  | _, _, .nil => .nil
  | _, _, .cons ⟨a, e, h1⟩ p => .cons ⟨a, _, e, h1⟩ (nw_of p)
def sp_spoilt_named (K : PySem.W.Frag) : Sp := fun vs H Q _ => ∃ (a f : Addr) (m : Int) (xs : List V) (ns : List Str), vs = [.ref a, .int m, .ref f] ∧ SqT K H a xs ∧ H f = some (.lst (List.replicate xs.length (.bl true))) ∧ Paired (NmAt K H) xs ns ∧ ns.Nodup ∧ ns.length ≤ 12 ∧ (ns.length : Int) ≤ m ∧ ∀ H', Same H H' → Q .non H'
def sp_spoilt_line (K : PySem.W.Frag) : Sp := fun vs H Q _ => ∃ (a : Addr) (ls : List LineD), vs = [.ref a, .int 12] ∧ LinesAt K H a ls ∧ LsOk ls ∧ ∀ H', Same H H' → Q .non H'
def sp_spoilt_work (K : PySem.W.Frag) : Sp := fun vs H Q _ => ∃ (a : Addr) (ls : List WorkD), vs = [.ref a, .int 8] ∧ WorksAt K H a ls ∧ WsOk ls ∧ ∀ H', Same H H' → Q .non H'

section
variable {P : Program} {w : World} {K : PySem.W.Frag} {mg : Str → Option Value} {base : Heap}

abbrev N_spoilt_named : List Str := ["rows", "most", "forms", "names", "at", "row"]
theorem sc_spoilt_named : FnScope N_spoilt_named ["rows", "most", "forms"] (C8.fnScope s_spoilt_named) := C8.fnScope_by (by decide +kernel)
theorem ok_spoilt_named {fd : FuncData} (T : Txt K mg) (F : FunD K "spoilt_named" "spoilt_named" (C8.fnArgs s_spoilt_named) (C8.fnBody s_spoilt_named) (C8.fnScope s_spoilt_named) [] [] (He.ga K "spoilt_named") fd) :
    C8.Cal P w K mg base 1 "spoilt_named" (sp_spoilt_named K) [] := by
  refine C8.cal0 (ds := []) ⟨fun_c8 F, T.f_spoilt_named, F.kp⟩ (F.bindsN fun _ _ _ _ _ _ us hl => match us, hl with | [_, _, _], _ => rfl) .nil sc_spoilt_named (fun vs H Q E h => ?_) (fun cdv A outer s H vs Q E hr h => ?_)
  · obtain ⟨_, _, _, _, _, rfl, _⟩ := h
    rfl
  · have nd := sc_spoilt_named.nd
    have hu := hu_of hr
    obtain ⟨a, f, m, xs, ns, rfl, hs, hfm, hp, ndl, l12, lm, q⟩ := h
    refine ⟨_, (pss_cons (ps_set (i := 3) nd rfl (Or.inl rfl) (pe_lst pa_nil))
      (pss_cons (ps_for PassesOwn.never rfl (pi_enumT (by rfl) T.n_enumerate (pa_cons (pv 0) pa_nil)) (pg_tup rfl (pgs_cons (pg_name (i := 4) nd rfl (Or.inl rfl)) (pgs_cons (pg_name (i := 5) nd rfl (Or.inl rfl)) pgs_nil))) (pss_cons (ps_if (PW.pt (pw_or (pt_cmpR op_eq (pv 4) (pv 1) (nomark _)) (pw_or (pt_not (pt_val (pe_ix (ix_list : IxR _ (rIxL K)) (pv 2) (pv 4) (fun _ _ => rfl)))) (pw_or1 (pt_cmpR op_in_seq (pe_ix ix_tup (pv 5) pe_int (fun _ _ => rfl)) (pv 3) (by rfl)))))) (pss_one (ps_ret (pv 4))) pss_nil)
      (pss_one (ps_expr (pe_bm PySem.F.plainAttrs_list PySem.F.slot_list_append PySem.F.type_list_append mt_append (pv 3) (pa_cons (pe_ix ix_tup (pv 5) pe_int (fun _ _ => rfl)) pa_nil))))))
      (pss_one (ps_ret pe_non)))), ?_⟩
    have hlen := hp.length
    refine ⟨Nat.zero_le _, fun p hfree => ?_⟩
    refine ⟨_, rfl, _, _, rfl, Same.tup (same_new (Same.refl H) hfree) hs, ?_⟩
    refine for_it (walk_enumT (xs := xs)) (fun i σ H' => ∃ x y, σ = [some (.ref a), some (.int m), some (.ref f), some (.ref p), x, y] ∧ Sep H H' [(p, .lst ((ns.take i).map V.str))]) ⟨_, _, rfl, Sep.nil.own hfree⟩ ?_ ?_ ?_
    · rintro i σ H' _ ⟨x, y, _, sp⟩
      exact Same.tup sp.ext hs
    · rintro i v σ H1 H2 hi ⟨x, y, rfl, sp⟩ ⟨t, v1, v2, rfl, hf, rfl, e1, e2⟩
      obtain rfl := Option.some.inj e1
      have hi2 : i < xs.length := (List.getElem?_eq_some_iff.mp e2).1
      obtain ⟨l, hl, hL⟩ := pget hp e2
      have sp2 := sp.drop (o := .tup [.int (i : Nat), v2]) hf
      have hpc := sp2.c0
      refine ⟨_, _, rfl, t_of upd_same, rfl, _, _, rfl, _, _, rfl, rfl, ?_⟩
      refine ⟨_, rfl, _, rfl, rfl, false, congrArg V.bl (decide_eq_false (by intro e; injection e; omega)), iteF ?_⟩
      refine ⟨_, rfl, _, rfl, _, _, _, _, rfl, rfl, l_of (sp2.ext _ _ hfm), atIn (by rw [List.getElem?_replicate, if_pos hi2]), true, rfl, iteF ?_⟩
      obtain ⟨t2, ll, rfl, hb⟩ := NmAt.up sp2.ext hL
      refine ⟨_, rfl, _, _, _, _, rfl, rfl, hb, atI0, _, rfl, _, _, rfl, .inl (l_of hpc), rfl, flat_strs _, false, congrArg V.bl (inV_not (nodup_take ndl hl)), iteF ?_⟩
      refine ⟨_, rfl, .inl ⟨rfl, _, .inl (.inl hpc)⟩, _, rfl, _, _, _, _, rfl, rfl, hb, atI0, _, _, _, rfl, rfl, hpc, ?_, ?_⟩
      · exact sml (m := 12) (by rw [List.length_map, List.length_take]; omega) (by decide)
      · refine ⟨_, _, rfl, ?_⟩
        rw [take_snoc hl, List.map_append]
        exact sp2.put0
    · rintro σ H' ⟨x, y, rfl, sp⟩
      exact q H' sp.ext
abbrev N_spoilt_line : List Str := ["lines", "most", "line"]
theorem sc_spoilt_line : FnScope N_spoilt_line ["lines", "most"] (C8.fnScope s_spoilt_line) := C8.fnScope_by (by decide +kernel)
theorem ok_spoilt_line {fd : FuncData} (T : Txt K mg) (F : FunD K "spoilt_line" "spoilt_line" (C8.fnArgs s_spoilt_line) (C8.fnBody s_spoilt_line) (C8.fnScope s_spoilt_line) [] [] (He.ga K "spoilt_line") fd) (c_is_line : C8.Cal P w K mg base 3 "is_line" (sp_is_line K) []) (c_spoilt_named : C8.Cal P w K mg base 1 "spoilt_named" (sp_spoilt_named K) []) :
    C8.Cal P w K mg base 4 "spoilt_line" (sp_spoilt_line K) [] := by
  refine C8.cal0 (ds := []) ⟨fun_c8 F, T.f_spoilt_line, F.kp⟩ (F.bindsN fun _ _ _ _ _ _ us hl => match us, hl with | [_, _], _ => rfl) .nil sc_spoilt_line (fun vs H Q E h => ?_) (fun cdv A outer s H vs Q E hr h => ?_)
  · obtain ⟨_, _, rfl, _⟩ := h
    rfl
  · have nd := sc_spoilt_line.nd
    have hu := hu_of hr
    obtain ⟨a, ls, rfl, hl, ok, q⟩ := h
    refine ⟨_, (pss_cons (ps_if (PW.pt (pw_or (pt_not (pt_val (pe_callB call_is (by rfl) T.n_isinstance (by decide +kernel) (pa_cons (pv 0) (pa_cons (pe_bltn (v := .ty "tuple") rfl T.n_tuple (by decide +kernel) rfl) pa_nil))))) (pw_or1 (pt_not (pt_truth (pv 0) (by intro _; rfl)))))) (pss_one (ps_ret pe_int)) pss_nil)
      (pss_one (ps_ret (C8.pe_c c_spoilt_named hr (by decide) rfl (pa_cons (pv 0) (pa_cons (pv 1) (pa_cons (pe_lc (own := [("line", 2)]) rfl nd (pi_tup (pv 0)) (blkOk_by (own := [("line", 2)]) (N := N_spoilt_line) (sc := (C8.fnScope s_spoilt_line)) (by decide +kernel)) (fun _ _ _ _ _ => (pg_name (i := 2) nd rfl (Or.inl rfl))) (fun _ _ _ _ _ => pts_nil) (fun _ _ _ _ _ => (C8.pe_c c_is_line hr (by decide) rfl (pa_cons (pv 2) pa_nil)))) pa_nil))))))), ?_⟩
    obtain ⟨xs, hs, hp⟩ := hl
    have hlen := hp.length
    refine ⟨_, rfl, _, _, _, _, rfl, ty_tup hs, kb4, true, rfl, iteF ?_⟩
    refine ⟨_, rfl, true, .inr (.inl ⟨_, hs, by
      cases xs with
      | nil => cases ls with
        | nil => exact absurd rfl ok.ne
        | cons _ _ => simp at hlen
      | cons _ _ => rfl⟩), iteF ?_⟩
    refine ⟨_, rfl, _, rfl, _, rfl, _, rfl, ⟨_, hs⟩, fun D hD => ?_⟩
    refine lc_it (walk_tup (xs := xs)) (fun i H' => Sep H H' [(D, .lst (List.replicate i (.bl true)))]) (Sep.nil.own hD) ?_ ?_ ?_
    · rintro i H' _ sp
      exact Same.tup sp.ext hs
    · rintro i v H1 H2 hi sp ⟨rfl, e2⟩
      obtain ⟨l, hl, hL⟩ := pget hp e2
      refine ⟨rfl, _, rfl, v, l, rfl, LineAt.up sp.ext hL, ok.ok l (List.mem_of_getElem? hl), _, sp.c0, ?_, ?_⟩
      · exact sml (m := 12) (by have := ok.le; rw [List.length_replicate]; omega) (by decide)
      · rw [List.replicate_succ']
        exact sp.put0
    rintro H1 sp
    have le := ok.le
    exact ⟨a, D, 12, xs, ls.map (·.name), rfl, Same.tup sp.ext hs, sp.c0, nm_of (hp.mono fun _ _ z => LineAt.up sp.ext z), ok.nd, by rw [List.length_map]; omega, by rw [List.length_map]; omega, fun H' g => q H' (Same.tr sp.ext g)⟩
abbrev N_spoilt_work : List Str := ["works", "most", "work"]
theorem sc_spoilt_work : FnScope N_spoilt_work ["works", "most"] (C8.fnScope s_spoilt_work) := C8.fnScope_by (by decide +kernel)
theorem ok_spoilt_work {fd : FuncData} (T : Txt K mg) (F : FunD K "spoilt_work" "spoilt_work" (C8.fnArgs s_spoilt_work) (C8.fnBody s_spoilt_work) (C8.fnScope s_spoilt_work) [] [] (He.ga K "spoilt_work") fd) (c_is_work : C8.Cal P w K mg base 3 "is_work" (sp_is_work K) []) (c_spoilt_named : C8.Cal P w K mg base 1 "spoilt_named" (sp_spoilt_named K) []) :
    C8.Cal P w K mg base 4 "spoilt_work" (sp_spoilt_work K) [] := by
  refine C8.cal0 (ds := []) ⟨fun_c8 F, T.f_spoilt_work, F.kp⟩ (F.bindsN fun _ _ _ _ _ _ us hl => match us, hl with | [_, _], _ => rfl) .nil sc_spoilt_work (fun vs H Q E h => ?_) (fun cdv A outer s H vs Q E hr h => ?_)
  · obtain ⟨_, _, rfl, _⟩ := h
    rfl
  · have nd := sc_spoilt_work.nd
    have hu := hu_of hr
    obtain ⟨a, ls, rfl, hl, ok, q⟩ := h
    refine ⟨_, (pss_cons (ps_if (pt_not (pt_val (pe_callB call_is (by rfl) T.n_isinstance (by decide +kernel) (pa_cons (pv 0) (pa_cons (pe_bltn (v := .ty "tuple") rfl T.n_tuple (by decide +kernel) rfl) pa_nil))))) (pss_one (ps_ret pe_int)) pss_nil)
      (pss_one (ps_ret (C8.pe_c c_spoilt_named hr (by decide) rfl (pa_cons (pv 0) (pa_cons (pv 1) (pa_cons (pe_lc (own := [("work", 2)]) rfl nd (pi_tup (pv 0)) (blkOk_by (own := [("work", 2)]) (N := N_spoilt_work) (sc := (C8.fnScope s_spoilt_work)) (by decide +kernel)) (fun _ _ _ _ _ => (pg_name (i := 2) nd rfl (Or.inl rfl))) (fun _ _ _ _ _ => pts_nil) (fun _ _ _ _ _ => (C8.pe_c c_is_work hr (by decide) rfl (pa_cons (pv 2) pa_nil)))) pa_nil))))))), ?_⟩
    obtain ⟨xs, hs, hp⟩ := hl
    have hlen := hp.length
    refine ⟨_, rfl, _, _, _, _, rfl, ty_tup hs, kb4, true, rfl, iteF ?_⟩
    refine ⟨_, rfl, _, rfl, _, rfl, _, rfl, ⟨_, hs⟩, fun D hD => ?_⟩
    refine lc_it (walk_tup (xs := xs)) (fun i H' => Sep H H' [(D, .lst (List.replicate i (.bl true)))]) (Sep.nil.own hD) ?_ ?_ ?_
    · rintro i H' _ sp
      exact Same.tup sp.ext hs
    · rintro i v H1 H2 hi sp ⟨rfl, e2⟩
      obtain ⟨l, hl, hL⟩ := pget hp e2
      refine ⟨rfl, _, rfl, v, l, rfl, WorkAt.up sp.ext hL, ok.ok l (List.mem_of_getElem? hl), _, sp.c0, ?_, ?_⟩
      · exact sml (m := 12) (by have := ok.le; rw [List.length_replicate]; omega) (by decide)
      · rw [List.replicate_succ']
        exact sp.put0
    rintro H1 sp
    have le := ok.le
    exact ⟨a, D, 8, xs, ls.map (·.name), rfl, Same.tup sp.ext hs, sp.c0, nw_of (hp.mono fun _ _ z => WorkAt.up sp.ext z), ok.nd, by rw [List.length_map]; omega, by rw [List.length_map]; omega, fun H' g => q H' (Same.tr sp.ext g)⟩
end
end Cb

namespace Cb
open PySem PySem.Spec PyProof.Rows L2

theorem Sep.tail {K0 H : Hp} {L : List (Addr × HO)} {e : Addr × HO} (s : Sep K0 H (e :: L)) : Sep K0 H L := ⟨s.ext, (List.nodup_cons.mp s.nd).2, fun a m => s.fr a (List.mem_cons_of_mem _ m), s.cs.2⟩
theorem putK_le (kvs : List (Key × V)) (k : Key) (v : V) : (putK kvs k v).length ≤ kvs.length + 1 := by
  unfold putK
  split <;> simp
def AllOk (ls : List LineD) (ws : List WorkD) : Prop := ∀ l ∈ ls, ∀ s ∈ l.steps, StepOk (ws.map (·.name)) s
def sp_spoilt_handler (K : PySem.W.Frag) : Sp := fun vs H Q _ => ∃ (a b : Addr) (ls : List LineD) (ws : List WorkD), vs = [.ref a, .ref b, .int 7] ∧ LinesAt K H a ls ∧ WorksAt K H b ws ∧ LsOk ls ∧ WsOk ws ∧ AllOk ls ws ∧ ∀ H', Same H H' → Q .non H'
def sp_check_setup (K : PySem.W.Frag) : Sp := fun vs H Q _ => ∃ (a b : Addr) (ls : List LineD) (ws : List WorkD), vs = [.ref a, .ref b] ∧ LinesAt K H a ls ∧ WorksAt K H b ws ∧ LsOk ls ∧ WsOk ws ∧ AllOk ls ws ∧ ∀ H', Same H H' → Q .non H'
theorem sm {n m : Nat} (h : n ≤ m) (hm : m < 4096) : n < sizeLine := Nat.lt_of_lt_of_le (Nat.lt_of_le_of_lt h hm) (by decide)

section
variable {P : Program} {w : World} {K : PySem.W.Frag} {mg : Str → Option Value} {base : Heap}

abbrev N_spoilt_handler : List Str := ["lines", "works", "max_flag", "kinds", "line", "names", "work", "at", "step"]
theorem sc_spoilt_handler : FnScope N_spoilt_handler ["lines", "works", "max_flag"] (C8.fnScope s_spoilt_handler) := C8.fnScope_by (by decide +kernel)
theorem ok_spoilt_handler {fd : FuncData} (T : Txt K mg) (F : FunD K "spoilt_handler" "spoilt_handler" (C8.fnArgs s_spoilt_handler) (C8.fnBody s_spoilt_handler) (C8.fnScope s_spoilt_handler) [] [] (He.ga K "spoilt_handler") fd) (c_is_step : C8.Cal P w K mg base 3 "is_step" (sp_is_step K) []) :
    C8.Cal P w K mg base 4 "spoilt_handler" (sp_spoilt_handler K) [] := by
  refine C8.cal0 (ds := []) ⟨fun_c8 F, T.f_spoilt_handler, F.kp⟩ (F.bindsN fun _ _ _ _ _ _ us hl => match us, hl with | [_, _, _], _ => rfl) .nil sc_spoilt_handler (fun vs H Q E h => ?_) (fun cdv A outer s H vs Q E hr h => ?_)
  · obtain ⟨_, _, _, _, rfl, _⟩ := h
    rfl
  · have nd := sc_spoilt_handler.nd
    have hu := hu_of hr
    obtain ⟨a, b, ls, ws, rfl, ⟨xs, hs, hp⟩, ⟨ys, ht, hr2⟩, ok, okw, oks, q⟩ := h
    refine ⟨_, (pss_cons (ps_set (i := 3) nd rfl (Or.inr rfl) (pe_dc (own := [("line", 4)]) rfl nd (pi_tup (pv 0)) (blkOk_by (own := [("line", 4)]) (N := N_spoilt_handler) (sc := (C8.fnScope s_spoilt_handler)) (by decide +kernel)) (fun _ _ _ _ _ => (pg_name (i := 4) nd rfl (Or.inl rfl))) (fun _ _ _ _ _ => pts_nil) (fun _ _ _ _ _ => (pe_ix (ix_tup : IxR _ (rIxT K)) (pv 4) pe_int (fun _ _ => rfl))) (fun _ _ _ _ _ => (pe_ix (ix_tup : IxR _ (rIxT K)) (pv 4) pe_int (fun _ _ => rfl)))))
      (pss_cons (ps_set (i := 5) nd rfl (Or.inr rfl) (pe_lc (own := [("work", 6)]) rfl nd (pi_tup (pv 1)) (blkOk_by (own := [("work", 6)]) (N := N_spoilt_handler) (sc := (C8.fnScope s_spoilt_handler)) (by decide +kernel)) (fun _ _ _ _ _ => (pg_name (i := 6) nd rfl (Or.inl rfl))) (fun _ _ _ _ _ => pts_nil) (fun _ _ _ _ _ => (pe_ix (ix_tup : IxR _ (rIxT K)) (pv 6) pe_int (fun _ _ => rfl)))))
      (pss_cons (ps_for PassesOwn.never rfl (pi_enumT (by rfl) T.n_enumerate (pa_cons (pv 0) pa_nil)) (pg_tup rfl (pgs_cons (pg_name (i := 7) nd rfl (Or.inl rfl)) (pgs_cons (pg_name (i := 4) nd rfl (Or.inl rfl)) pgs_nil))) (pss_one (ps_if (pt_not (pt_val (pe_callB (cr_all rfl) (by rfl) T.n_all (by decide +kernel) (pa_cons (pe_lc (own := [("step", 8)]) rfl nd (pi_tup (pe_ix ix_tup (pv 4) pe_int (fun _ _ => rfl))) (blkOk_by (own := [("step", 8)]) (N := N_spoilt_handler) (sc := (C8.fnScope s_spoilt_handler)) (by decide +kernel)) (fun _ _ _ _ _ => (pg_name (i := 8) nd rfl (Or.inl rfl))) (fun _ _ _ _ _ => pts_nil) (fun _ _ _ _ _ => (C8.pe_c c_is_step hr (by decide) rfl (pa_cons (pv 8) (pa_cons (pv 3) (pa_cons (pv 5) (pa_cons (pv 2) pa_nil))))))) pa_nil)))) (pss_one (ps_ret (pv 7))) pss_nil)))
      (pss_one (ps_ret pe_non))))), ?_⟩
    
    have hlen := hp.length
    have hlenw := hr2.length
    refine ⟨_, rfl, _, rfl, ⟨_, hs⟩, fun D hD => ?_⟩
    refine dc_it (walk_tup (xs := xs)) (fun i H' => ∃ kvs, kvs.length ≤ i ∧ Sep H H' [(D, .dK kvs)]) ⟨[], Nat.le_refl _, Sep.nil.own hD⟩ ?_ ?_ ?_
    · rintro i H' _ ⟨_, _, sp⟩
      exact Same.tup sp.ext hs
    · rintro i v H1 H2 hi ⟨kvs, hk, sp⟩ ⟨rfl, e2⟩
      obtain ⟨l, hl, hL⟩ := pget hp e2
      obtain ⟨c, g, hs2, rfl, hb, _⟩ := LineAt.up sp.ext hL
      refine ⟨rfl, ⟨_, rfl, _, _, _, _, rfl, rfl, hb, rfl, _, rfl, _, _, _, _, rfl, rfl, hb, rfl, kvs, .inr l.name, rfl, sp.c0, ?_, ?_⟩⟩
      · exact sm (m := 12) (by have := ok.le; omega) (by decide)
      · exact ⟨_, Nat.le_trans (putK_le _ _ _) (by omega), sp.put0⟩
    rintro H1 ⟨kvs, hk, sp⟩
    refine ⟨_, rfl, _, rfl, ⟨_, Same.tup sp.ext ht⟩, fun D2 hD2 => ?_⟩
    refine lc_it (walk_tup (xs := ys)) (fun i H' => Sep H H' [(D2, .lst (wnames (ws.take i))), (D, .dK kvs)]) (sp.own hD2) ?_ ?_ ?_
    · rintro i H' _ sp
      exact Same.tup sp.ext ht
    · rintro i v H1 H2 hi sp ⟨rfl, e2⟩
      obtain ⟨l, hl, hL⟩ := pget hr2 e2
      obtain ⟨c, rfl, hb⟩ := WorkAt.up sp.ext hL
      refine ⟨rfl, ⟨_, rfl, _, _, _, _, rfl, rfl, hb, rfl, _, sp.c0, ?_, ?_⟩⟩
      · exact sm (m := 12) (by have := okw.le; simp [wnames]; omega) (by decide)
      · rw [take_snoc hl]
        unfold wnames
        rw [List.map_append]
        exact sp.put0
    rintro H2 sp2
    refine ⟨_, rfl, _, _, rfl, Same.tup sp2.ext hs, ?_⟩
    rw [show ws.take ys.length = ws by rw [hlenw]; exact List.take_length] at sp2
    refine for_it (walk_enumT (xs := xs)) (fun i σ H' => ∃ x y z u, σ = [some (.ref a), some (.ref b), some (.int 7), some (.ref D), x, some (.ref D2), u, y, z] ∧ Sep H H' [(D2, .lst (wnames ws)), (D, .dK kvs)]) ⟨_, _, _, _, rfl, sp2⟩ ?_ ?_ ?_
    · rintro i σ H' _ ⟨_, _, _, _, _, sp⟩
      exact Same.tup sp.ext hs
    · rintro i v σ H1 H2 hi ⟨x, y, z, u, rfl, sp⟩ ⟨t, v1, v2, rfl, hf, rfl, e1, e2⟩
      obtain rfl := Option.some.inj e1
      obtain ⟨l, hl, hL⟩ := pget hp e2
      have sp2 := sp.drop (o := .tup [.int (i : Nat), v2]) hf
      obtain ⟨c, g, gs, rfl, hb0, hg, hst⟩ := hL
      have hb := Same.tup sp2.ext hb0
      have hlg := hst.length
      refine ⟨_, _, rfl, t_of upd_same, rfl, _, _, rfl, _, _, rfl, rfl, ?_⟩
      refine ⟨_, rfl, _, _, _, _, rfl, rfl, hb, rfl, _, rfl, ⟨_, Same.tup sp2.ext hg⟩, fun D3 hD3 => ?_⟩
      refine lc_it (walk_tup (xs := gs)) (fun i H' => Sep H H' [(D3, .lst (List.replicate i (.bl true))), (D2, .lst (wnames ws)), (D, .dK kvs)]) (sp2.own hD3) ?_ ?_ ?_
      · rintro j H' _ sp
        exact Same.tup sp.ext hg
      · rintro j v H3 H4 hj sp3 ⟨rfl, e3⟩
        obtain ⟨st, hst1, hst2⟩ := pget hst e3
        refine ⟨rfl, ⟨_, rfl, _, rfl, _, rfl, _, rfl, ?_⟩⟩
        refine ⟨_, _, _, _, st, ws.map (·.name), rfl, StepAt.up sp3.ext hst2, l_of (by have z := sp3.c1; unfold wnames at z; rw [List.map_map]; exact z), oks l (List.mem_of_getElem? hl) st (List.mem_of_getElem? hst1), _, sp3.c0, ?_, ?_⟩
        · rw [List.length_replicate]
          exact sm (m := 12) (by have := (ok.ok l (List.mem_of_getElem? hl)).s8; omega) (by decide)
        · rw [List.replicate_succ']
          exact sp3.put0
      · rintro H3 sp3
        refine ⟨_, List.replicate gs.length true, rfl, l_of (by rw [List.map_replicate]; exact sp3.c0), true, congrArg V.bl (by simp), iteF ?_⟩
        exact ⟨_, _, _, _, rfl, sp3.tail⟩
    · rintro σ H' ⟨_, _, _, _, rfl, sp⟩
      exact q H' sp.ext
abbrev N_check_setup : List Str := ["lines", "works", "at"]
theorem sc_check_setup : FnScope N_check_setup ["lines", "works"] (C8.fnScope s_check_setup) := C8.fnScope_by (by decide +kernel)
theorem ok_check_setup {fd : FuncData} (T : Txt K mg) (F : FunD K "check_setup" "check_setup" (C8.fnArgs s_check_setup) (C8.fnBody s_check_setup) (C8.fnScope s_check_setup) [] [] (He.ga K "check_setup") fd) (c_spoilt_line : C8.Cal P w K mg base 4 "spoilt_line" (sp_spoilt_line K) []) (c_spoilt_work : C8.Cal P w K mg base 4 "spoilt_work" (sp_spoilt_work K) []) (c_spoilt_handler : C8.Cal P w K mg base 4 "spoilt_handler" (sp_spoilt_handler K) []) :
    C8.Cal P w K mg base 5 "check_setup" (sp_check_setup K) [] := by
  refine C8.cal0 (ds := []) ⟨fun_c8 F, T.f_check_setup, F.kp⟩ (F.bindsN fun _ _ _ _ _ _ us hl => match us, hl with | [_, _], _ => rfl) .nil sc_check_setup (fun vs H Q E h => ?_) (fun cdv A outer s H vs Q E hr h => ?_)
  · obtain ⟨_, _, _, _, rfl, _⟩ := h
    rfl
  · have nd := sc_check_setup.nd
    have hu := hu_of hr
    obtain ⟨a, b, ls, ws, rfl, hl, hw, ok, okw, oks, q⟩ := h
    refine ⟨_, (pss_cons (ps_set (i := 2) nd rfl (Or.inl rfl) (C8.pe_c c_spoilt_line hr (by decide) rfl (pa_cons (pv 0) (pa_cons (ClX.pe_cval (pe_glob (v := .ref (aC "Setup" K)) rfl T.g_Setup rfl)) pa_nil))))
      (pss_cons (ps_if (pt_cmpR op_notN (pv 2) pe_non (nomark _)) (pss_one ps_never) pss_nil)
      (pss_cons (ps_set (i := 2) nd rfl (Or.inl rfl) (C8.pe_c c_spoilt_work hr (by decide) rfl (pa_cons (pv 1) (pa_cons (ClX.pe_cval (pe_glob (v := .ref (aC "Setup" K)) rfl T.g_Setup rfl)) pa_nil))))
      (pss_cons (ps_if (pt_cmpR op_notN (pv 2) pe_non (nomark _)) (pss_one ps_never) pss_nil)
      (pss_cons (ps_set (i := 2) nd rfl (Or.inl rfl) (C8.pe_c c_spoilt_handler hr (by decide) rfl (pa_cons (pv 0) (pa_cons (pv 1) (pa_cons (ClX.pe_cval (pe_glob (v := .ref (aC "Setup" K)) rfl T.g_Setup rfl)) pa_nil)))))
      (pss_one (ps_if (pt_cmpR op_notN (pv 2) pe_non (nomark _)) (pss_one ps_never) pss_nil))))))), ?_⟩
    
    obtain ⟨u1, c1⟩ := T.c_Setup_MAX_LINES
    obtain ⟨u2, c2⟩ := T.c_Setup_MAX_WORKS
    obtain ⟨u3, c3⟩ := T.c_Setup_MAX_FLAG
    refine ⟨_, rfl, _, _, _, _, rfl, T.r_Setup, c1, a, ls, rfl, hl, ok, fun H1 s1 => ?_⟩
    refine ⟨_, rfl, rfl, false, rfl, iteF ?_⟩
    refine ⟨_, rfl, _, _, _, _, rfl, T.r_Setup, c2, b, ws, rfl, WorksAt.up s1 hw, okw, fun H2 s2 => ?_⟩
    refine ⟨_, rfl, rfl, false, rfl, iteF ?_⟩
    refine ⟨_, rfl, _, rfl, _, _, _, _, rfl, T.r_Setup, c3, a, b, ls, ws, rfl, LinesAt.up s2 (LinesAt.up s1 hl), WorksAt.up s2 (WorksAt.up s1 hw), ok, okw, oks, fun H3 s3 => ?_⟩
    refine ⟨_, rfl, rfl, false, rfl, iteF ?_⟩
    exact q H3 fun b o z => s3 b o (s2 b o (s1 b o z))
end
end Cb

namespace Cb
open PySem PySem.Spec PyProof.Rows L2

theorem Sep.freeze {K0 H : Hp} {L : List (Addr × HO)} {a : Addr} {o : HO} (s : Sep K0 H ((a, o) :: L)) : Sep (upd K0 a o) H L := by
  have ha : K0 a = none := s.fr a List.mem_cons_self
  have n := List.nodup_cons.mp s.nd
  refine ⟨fun b u q => ?_, n.2, fun b m => ?_, s.cs.2⟩
  · by_cases e : b = a
    · subst e
      rw [upd_same] at q
      exact (Option.some.inj q) ▸ s.cs.1
    · rw [upd_ne e] at q
      exact s.ext b u q
  · have ne : b ≠ a := fun q => n.1 (q ▸ m)
    rw [upd_ne ne]
    exact s.fr b (List.mem_cons_of_mem _ m)
theorem Sep.new0 {K0 H : Hp} {L : List (Addr × HO)} {a : Addr} {o : HO} (s : Sep K0 H ((a, o) :: L)) : Same K0 (upd K0 a o) := same_new (Same.refl K0) (s.fr a List.mem_cons_self)
theorem Sep.newk {K0 H : Hp} {L : List (Addr × HO)} (s : Sep K0 H L) {p : Addr} {o : HO} (h : H p = none) : Same K0 (upd K0 p o) := same_new (Same.refl K0) (s.free h).1
theorem putK_new {kvs : List (Key × V)} {k : Key} {v : V} (h : ∀ e ∈ kvs, e.1 ≠ k) : putK kvs k v = kvs ++ [(k, v)] := by
  unfold putK
  rw [if_neg]
  simp only [List.any_eq_true, decide_eq_true_eq, not_exists, not_and]
  exact fun e m => h e m
theorem Sep.grow {K0 H H1 : Hp} {L : List (Addr × HO)} (s : Sep K0 H L) (g : Same H H1) : Sep K0 H1 L := ⟨Same.tr s.ext g, s.nd, s.fr, Cells.of fun e m => g _ _ (s.cs.mem e m)⟩
theorem Sep.swap {K0 H : Hp} {L : List (Addr × HO)} {e f : Addr × HO} (s : Sep K0 H (e :: f :: L)) : Sep K0 H (f :: e :: L) := s.perm (List.Perm.swap _ _ _)
def keyOf (K' : Hp) : V → Int × Str
  | .ref t => match K' t with
    | some (.tup [.int i, .str s]) => (i, s)
    | _ => (0, "")
  | _ => (0, "")
theorem keyOf_at {K' : Hp} {t : Addr} {i : Int} {s : Str} (h : K' t = some (.tup [.int i, .str s])) : keyOf K' (.ref t) = (i, s) := by
  unfold keyOf
  simp [h]
def RankAt (K' : Hp) (v : V) (l : LineD) : Prop := ∃ t, v = .ref t ∧ K' t = some (.tup [.int (-l.rank), .str l.name])
theorem ranked_names {K' : Hp} : ∀ {acc : List V} {ls : List LineD}, Paired (RankAt K') acc ls → acc.map (fun v => (keyOf K' v).2) = ls.map (·.name)
  | _, _, .nil => rfl
  | _, _, .cons ⟨t, e, h⟩ p => by
    subst e
    rw [List.map_cons, List.map_cons, ranked_names p, keyOf_at h]
theorem ranked_mem {K' : Hp} {acc : List V} {ls : List LineD} (p : Paired (RankAt K') acc ls) {v : V} (m : v ∈ acc) : ∃ t i s, v = .ref t ∧ K' t = some (.tup [.int i, .str s]) ∧ keyOf K' v = (i, s) := by
  obtain ⟨i, hi⟩ := List.mem_iff_getElem?.mp m
  obtain ⟨l, _, t, rfl, h⟩ := pget p hi
  exact ⟨t, _, _, rfl, h, keyOf_at h⟩
structure SetD where
  ls : List LineD
  ws : List WorkD
  order : List Str
structure SetOk (S : SetD) : Prop where
  ok : LsOk S.ls
  okw : WsOk S.ws
  all : AllOk S.ls S.ws
  perm : S.order.Perm (S.ls.map (·.name))
  srt : S.order.Pairwise fun a b => ∀ la ∈ S.ls, ∀ lb ∈ S.ls, la.name = a → lb.name = b → lb.rank ≤ la.rank
def byN (ls : List LineD) (xs : List V) : List (Key × V) := (ls.zip xs).map fun p => (.inr p.1.name, p.2)
theorem byN_at : ∀ {ls : List LineD} {xs : List V} {i : Nat} {l : LineD} {v : V}, (ls.map (·.name)).Nodup → ls[i]? = some l → xs[i]? = some v → valV (byN ls xs) (.inr l.name) = some v
  | [], _, i, _, _, _, h, _ => by simp at h
  | _ :: _, [], i, _, _, _, _, h => by simp at h
  | m :: ls, x :: xs, 0, l, v, nd, h, g => by
    simp at h g
    subst h g
    simp [byN, valV]
  | m :: ls, x :: xs, i + 1, l, v, nd, h, g => by
    simp at h g
    have nd2 := List.nodup_cons.mp nd
    have ne : m.name ≠ l.name := fun q => nd2.1 (by show m.name ∈ _; rw [q]; exact List.mem_map_of_mem (List.mem_of_getElem? h))
    have z := byN_at (xs := xs) nd2.2 h g
    unfold byN valV at z ⊢
    rw [List.zip_cons_cons, List.map_cons, List.find?_cons_of_neg (by simp [ne])]
    exact z
theorem byN_no {ls : List LineD} {xs : List V} {n : Str} (h : n ∉ ls.map (·.name)) : valV (byN ls xs) (.inr n) = none := by
  unfold valV byN
  rw [List.find?_eq_none.mpr]
  · rfl
  · intro e m
    obtain ⟨p, hp, rfl⟩ := List.mem_map.mp m
    have hp2 := (List.of_mem_zip hp).1
    simp only [decide_eq_true_eq]
    intro q
    injection q with q
    exact h (q ▸ List.mem_map_of_mem hp2)
theorem byN_snoc {ls : List LineD} {xs : List V} {i : Nat} {l : LineD} {v : V} (nd : (ls.map (·.name)).Nodup) (h : ls[i]? = some l) (g : xs[i]? = some v) : putK (byN (ls.take i) (xs.take i)) (.inr l.name) v = byN (ls.take (i + 1)) (xs.take (i + 1)) := by
  rw [putK_new, take_snoc h, take_snoc g]
  · unfold byN
    have e : (ls.take i).length = (xs.take i).length := by
      have h1 : i < ls.length := by
        rcases Nat.lt_or_ge i ls.length with z | z
        · exact z
        · rw [List.getElem?_eq_none z] at h; cases h
      have h2 : i < xs.length := by
        rcases Nat.lt_or_ge i xs.length with z | z
        · exact z
        · rw [List.getElem?_eq_none z] at g; cases g
      simp; omega
    rw [List.zip_append e]
    simp
  · intro e m q
    obtain ⟨p, hp, rfl⟩ := List.mem_map.mp m
    have hp2 := (List.of_mem_zip hp).1
    injection q with q
    have := nodup_take nd (i := i) (x := l.name) (by simp [h])
    rw [← List.map_take] at this
    exact this (q ▸ List.mem_map_of_mem hp2)
theorem ranked_key {K' : Hp} {acc : List V} {ls : List LineD} (p : Paired (RankAt K') acc ls) {v : V} (m : v ∈ acc) : ∃ l ∈ ls, keyOf K' v = (-l.rank, l.name) := by
  obtain ⟨i, hi⟩ := List.mem_iff_getElem?.mp m
  obtain ⟨l, hl, t, rfl, h⟩ := pget p hi
  exact ⟨l, List.mem_of_getElem? hl, keyOf_at h⟩
theorem nm_inj : ∀ {ls : List LineD}, (ls.map (·.name)).Nodup → ∀ {a b : LineD}, a ∈ ls → b ∈ ls → a.name = b.name → a = b
  | m :: ls, nd, a, b, ha, hb, e => by
    have n2 := List.nodup_cons.mp nd
    rcases List.mem_cons.mp ha with ea | ha
    · rcases List.mem_cons.mp hb with eb | hb
      · rw [ea, eb]
      · exact absurd (show m.name ∈ ls.map (·.name) by rw [← ea, e]; exact List.mem_map_of_mem hb) n2.1
    · rcases List.mem_cons.mp hb with eb | hb
      · exact absurd (show m.name ∈ ls.map (·.name) by rw [← eb, ← e]; exact List.mem_map_of_mem ha) n2.1
      · exact nm_inj n2.2 ha hb e
theorem srt_of {K' : Hp} {acc ys : List V} {ls : List LineD} (nd : (ls.map (·.name)).Nodup) (p : Paired (RankAt K') acc ls) (pm : ys.Perm acc) (sd : ys.Pairwise fun x y => lexIS (keyOf K' y) (keyOf K' x) = false) :
    (ys.map fun v => (keyOf K' v).2).Pairwise fun a b => ∀ la ∈ ls, ∀ lb ∈ ls, la.name = a → lb.name = b → lb.rank ≤ la.rank := by
  rw [List.pairwise_map]
  refine sd.imp_of_mem fun {x y} hx hy h la hla lb hlb ea eb => ?_
  obtain ⟨lx, hlx, kx⟩ := ranked_key p (pm.mem_iff.mp hx)
  obtain ⟨ly, hly, ky⟩ := ranked_key p (pm.mem_iff.mp hy)
  rw [kx] at ea h
  rw [ky] at eb h
  have e1 := nm_inj nd hla hlx ea
  have e2 := nm_inj nd hlb hly eb
  subst e1 e2
  unfold lexIS at h
  simp only at h
  by_cases q : -lb.rank = -la.rank
  · omega
  · rw [if_neg q] at h
    have := of_decide_eq_false h
    omega
structure SetupAt (K : PySem.W.Frag) (H : Hp) (su : Addr) (S : SetD) : Prop where
  ex : ∃ dx la wa bn oa xs, H su = some (.ins (aC "Setup" K) dx [("_lines", .ref la), ("_works", .ref wa), ("_by_name", .ref bn), ("_order", .ref oa)]) ∧ LinesAt K H la S.ls ∧ WorksAt K H wa S.ws ∧ H bn = some (.dK (byN S.ls xs)) ∧ Paired (LineAt K H) xs S.ls ∧ H oa = some (.tup (S.order.map V.str))
theorem SetupAt.up {K : PySem.W.Frag} {H H' : Hp} {v : Addr} {s : SetD} (e : Same H H') (h : SetupAt K H v s) : SetupAt K H' v s := by
  obtain ⟨dx, la, wa, bn, oa, xs, h1, h2, h3, h4, h5, h6⟩ := h
  exact ⟨dx, la, wa, bn, oa, xs, e _ _ h1, LinesAt.up e h2, WorksAt.up e h3, e _ _ h4, h5.mono fun _ _ z => LineAt.up e z, e _ _ h6⟩
def sp_Setup_init (K : PySem.W.Frag) : Sp := fun vs H Q _ => ∃ (x dx a b : Addr) (ls : List LineD) (ws : List WorkD) (K0 : Hp) (M : List (Addr × HO)), vs = [.ref x, .ref a, .ref b] ∧
  Sep K0 H ((x, .ins (aC "Setup" K) dx []) :: M) ∧ LinesAt K K0 a ls ∧ WorksAt K K0 b ws ∧ LsOk ls ∧ WsOk ws ∧ AllOk ls ws ∧
  ∀ K1 H' S, Same K0 K1 → Sep K1 H' M → SetupAt K K1 x S → S.ls = ls → S.ws = ws → SetOk S → Q .non H'
def sp_Setup_contains (K : PySem.W.Frag) : Sp := fun vs H Q _ => ∃ (su : Addr) (S : SetD) (n : Str), vs = [.ref su, .str n] ∧ SetupAt K H su S ∧ SetOk S ∧ Q (.bl (decide (n ∈ S.ls.map (·.name)))) H

section
variable {P : Program} {w : World} {K : PySem.W.Frag} {mg : Str → Option Value} {base : Heap}

abbrev N_Setup_contains : List Str := ["self", "x"]
theorem sc_Setup_contains : FnScope N_Setup_contains ["self", "x"] (C8.fnScope s_Setup_contains) := C8.fnScope_by (by decide +kernel)
theorem ok_Setup_contains {fd : FuncData} (T : Txt K mg) (F : FunD K "__contains__" "Setup.__contains__" (C8.fnArgs s_Setup_contains) (C8.fnBody s_Setup_contains) (C8.fnScope s_Setup_contains) [] [] (He.ma K (aC "Setup" K) "__contains__") fd) :
    C8.Met P w K mg base 1 (aC "Setup" K) "__contains__" (sp_Setup_contains K) [] := by
  refine C8.met0 T.cl_Setup T.m_Setup_contains (fun_c8 F) (F.bindsN fun _ _ _ _ _ _ us hl => match us, hl with | [_, _], _ => rfl) sc_Setup_contains (fun vs H Q E h => ?_) (fun cdv A outer s H vs Q E hr h => ?_)
  · obtain ⟨_, _, _, rfl, _⟩ := h
    rfl
  · have nd := sc_Setup_contains.nd
    have hu := hu_of hr
    obtain ⟨su, S, n, rfl, ⟨dx, la, wa, bn, oa, xs, h1, h2, h3, h4, h5, h6⟩, ok, q⟩ := h
    refine ⟨_, (pss_one (ps_ret (pe_and (pe_callB call_is (by rfl) T.n_isinstance (by decide +kernel) (pa_cons (pv 1) (pa_cons (pe_bltn (v := .ty "str") rfl T.n_str (by decide +kernel) rfl) pa_nil))) (pe_one (pe_cmp (pc_din hu (pv 1) (pe_fld (pv 0) rfl)) rfl))))), ?_⟩
    refine ⟨_, rfl, _, _, _, _, rfl, ty_str, kb3, true, rfl, iteT ?_⟩
    refine ⟨_, rfl, _, rfl, _, _, _, _, _, rfl, h1, T.cl_Setup, T.t_Setup_by_name, rfl, _, valV (byN S.ls xs) (.inr n), rfl, DGet.k (k := .inr n) h4, ?_⟩
    by_cases hm : n ∈ S.ls.map (·.name)
    · rw [decide_eq_true hm] at q
      obtain ⟨l, hl, rfl⟩ := List.mem_map.mp hm
      obtain ⟨i, hi⟩ := List.mem_iff_getElem?.mp hl
      obtain ⟨v, hv, _⟩ := pgetr h5 hi
      rw [byN_at ok.ok.nd hi hv]
      exact q
    · rw [decide_eq_false hm] at q
      rw [byN_no hm]
      exact q
abbrev N_Setup_init : List Str := ["self", "lines", "works", "line", "ranked", "_", "name"]
theorem sc_Setup_init : FnScope N_Setup_init ["self", "lines", "works"] (C8.fnScope s_Setup_init) := C8.fnScope_by (by decide +kernel)
theorem bind_Setup_init {K : PySem.W.Frag} {f : Addr} {fd : FuncData} {dv : V} (F : FunD K "__init__" "Setup.__init__" (C8.fnArgs s_Setup_init) (C8.fnBody s_Setup_init) (C8.fnScope s_Setup_init) [dv] [] f fd) : L2.Binds K fd ["self", "lines", "works"] [] := by
  obtain ⟨ds, hv, hb⟩ := F.binds1 (ps := ["self", "lines", "works"]) 3 1 (by simp) rfl (fun T kV doc pm an cdv ct us its h1 h2 => match us, its, h1, h2 with | [_, _, _], [_], _, _ => ⟨_, rfl, rfl⟩)
  cases hv
  exact hb
theorem fnok_Setup_init {fd : FuncData} (T : Txt K mg) {dv : V} (F : FunD K "__init__" "Setup.__init__" (C8.fnArgs s_Setup_init) (C8.fnBody s_Setup_init) (C8.fnScope s_Setup_init) [dv] [] (He.ma K (aC "Setup" K) "__init__") fd) (c_check_setup : C8.Cal P w K mg base 5 "check_setup" (sp_check_setup K) []) :
    FnOk P w K mg base C8.CX0 6 (He.ma K (aC "Setup" K) "__init__") fd ["self", "lines", "works"] (sp_Setup_init K) := by
  refine C8.fn0 (fun_c8 F) sc_Setup_init (fun vs H Q E h => ?_) (fun cdv A outer s H vs Q E hr h => ?_)
  · obtain ⟨_, _, _, _, _, _, _, _, rfl, _⟩ := h
    rfl
  · have nd := sc_Setup_init.nd
    have hu := hu_of hr
    obtain ⟨x, dx, a, b, ls, ws, K0, M, rfl, sp, hl, hw, ok, okw, oks, q⟩ := h
    refine ⟨_, (pss_cons (ps_expr (C8.pe_c c_check_setup hr (by decide) rfl (pa_cons (pv 1) (pa_cons (pv 2) pa_nil))))
      (pss_cons (ps_fld (pv 0) (pv 1) rfl)
      (pss_cons (ps_fld (pv 0) (pv 2) rfl)
      (pss_cons (ps_fld (pv 0) (pe_dc (own := [("line", 3)]) rfl nd (pi_tup (pv 1)) (blkOk_by (own := [("line", 3)]) (N := N_Setup_init) (sc := (C8.fnScope s_Setup_init)) (by decide +kernel)) (fun _ _ _ _ _ => (pg_name (i := 3) nd rfl (Or.inl rfl))) (fun _ _ _ _ _ => pts_nil) (fun _ _ _ _ _ => (pe_ix (ix_tup : IxR _ (rIxT K)) (pv 3) pe_int (fun _ _ => rfl))) (fun _ _ _ _ _ => (pv 3))) rfl)
      (pss_cons (ps_set (i := 4) nd rfl (Or.inl rfl) (pe_callB cr_sortIS (by rfl) T.n_sorted (by decide +kernel) (pa_cons (pe_lc (own := [("line", 3)]) rfl nd (pi_tup (pv 1)) (blkOk_by (own := [("line", 3)]) (N := N_Setup_init) (sc := (C8.fnScope s_Setup_init)) (by decide +kernel)) (fun _ _ _ _ _ => (pg_name (i := 3) nd rfl (Or.inl rfl))) (fun _ _ _ _ _ => pts_nil) (fun _ _ _ _ _ => (pe_tup (pa_cons (pe_un un_neg (pe_ix (ix_tup : IxR _ (rIxT K)) (pv 3) pe_int (fun _ _ => rfl))) (pa_cons (pe_ix (ix_tup : IxR _ (rIxT K)) (pv 3) pe_int (fun _ _ => rfl)) pa_nil))))) pa_nil)))
      (pss_one (ps_fld (pv 0) (pe_callTy call_tuple_of (by rfl) T.n_tuple (by decide +kernel) (pa_cons (pe_lc (own := [("_", 5), ("name", 6)]) rfl nd (pi_list (pv 4)) (blkOk_by (own := [("_", 5), ("name", 6)]) (N := N_Setup_init) (sc := (C8.fnScope s_Setup_init)) (by decide +kernel)) (fun _ _ _ _ _ => (pg_tup (n := 2) rfl (pgs_cons (pg_name (i := 5) nd rfl (Or.inl rfl)) (pgs_cons (pg_name (i := 6) nd rfl (Or.inl rfl)) pgs_nil)) : PG _ _ (gTup K 2 _))) (fun _ _ _ _ _ => pts_nil) (fun _ _ _ _ _ => (pv 6))) pa_nil)) rfl))))))), ?_⟩
    
    obtain ⟨xs, hs, hp⟩ := hl
    have hlen := hp.length
    refine ⟨_, rfl, _, rfl, a, b, ls, ws, rfl, LinesAt.up sp.ext ⟨xs, hs, hp⟩, WorksAt.up sp.ext hw, ok, okw, oks, fun H1 s1 => ?_⟩
    have sp1 := sp.grow s1
    refine ⟨_, rfl, _, rfl, _, _, _, _, rfl, sp1.c0, T.cl_Setup, T.t_Setup_lines, (by simp), ?_⟩
    have sp2 := sp1.put0 (o' := .ins (aC "Setup" K) dx [("_lines", .ref a)])
    refine ⟨_, rfl, _, rfl, _, _, _, _, rfl, sp2.c0, T.cl_Setup, T.t_Setup_works, (by simp), ?_⟩
    have sp3 := sp2.put0 (o' := .ins (aC "Setup" K) dx [("_lines", .ref a), ("_works", .ref b)])
    refine ⟨_, rfl, _, rfl, ⟨_, Same.tup sp3.ext hs⟩, fun D hD => ?_⟩
    refine dc_it (walk_tup (xs := xs)) (fun i H' => Sep K0 H' ((D, .dK (byN (ls.take i) (xs.take i))) :: (x, .ins (aC "Setup" K) dx [("_lines", .ref a), ("_works", .ref b)]) :: M)) (sp3.own hD) ?_ ?_ ?_
    · rintro i H' _ sp
      exact Same.tup sp.ext hs
    · rintro i v H1 H2 hi sp ⟨rfl, e2⟩
      obtain ⟨l, hl, hL⟩ := pget hp e2
      obtain ⟨c, g, hs2, rfl, hb, _⟩ := LineAt.up sp.ext hL
      refine ⟨rfl, ⟨_, rfl, _, _, _, _, rfl, rfl, hb, rfl, _, rfl, _, .inr l.name, rfl, sp.c0, ?_, ?_⟩⟩
      · exact sm (m := 12) (by have := ok.le; unfold byN; simp; omega) (by decide)
      · rw [byN_snoc ok.nd hl e2]
        exact sp.put0
    rintro H2 sp4
    rw [List.take_of_length_le (Nat.le_of_eq hlen.symm), List.take_of_length_le (Nat.le_refl _)] at sp4
    refine ⟨_, rfl, _, _, _, _, rfl, sp4.c1, T.cl_Setup, T.t_Setup_by_name, (by simp), ?_⟩
    have sp5 := sp4.swap.put0 (o' := .ins (aC "Setup" K) dx [("_lines", .ref a), ("_works", .ref b), ("_by_name", .ref D)])
    have sp6 := sp5.swap.freeze
    have g1 := sp5.swap.new0
    have hD1 : (upd K0 D (.dK (byN ls xs))) D = some (.dK (byN ls xs)) := upd_same
    revert sp6 g1 hD1
    generalize upd K0 D (.dK (byN ls xs)) = K1
    intro sp6 g1 hD1
    refine ⟨_, rfl, _, rfl, ⟨_, Same.tup (Same.tr g1 sp6.ext) hs⟩, fun D2 hD2 => ?_⟩
    refine lc_it (walk_tup (xs := xs)) (fun i H' => ∃ K' acc, Same K1 K' ∧ Sep K' H' ((D2, .lst acc) :: (x, .ins (aC "Setup" K) dx [("_lines", .ref a), ("_works", .ref b), ("_by_name", .ref D)]) :: M) ∧ Paired (RankAt K') acc (ls.take i)) ⟨K1, [], Same.refl _, sp6.own hD2, .nil⟩ ?_ ?_ ?_
    · rintro i H' _ ⟨K', acc, g, sp, _⟩
      exact Same.tup (Same.tr (Same.tr g1 g) sp.ext) hs
    · rintro i v H1 H2 hi ⟨K', acc, g, sp, pr⟩ ⟨rfl, e2⟩
      obtain ⟨l, hl, hL⟩ := pget hp e2
      obtain ⟨c, gg, hs2, rfl, hb, _⟩ := LineAt.up (Same.tr (Same.tr g1 g) sp.ext) hL
      refine ⟨rfl, ⟨_, rfl, _, _, _, _, rfl, rfl, hb, rfl, _, rfl, _, rfl, _, _, _, _, rfl, rfl, hb, rfl, small8 (by simp), fun t ht => ?_⟩⟩
      have z := sp.keep (o := .tup [.int (-l.rank), .str l.name]) ht
      refine ⟨_, z.c0, ?_, _, _, Same.tr g (sp.newk ht), z.put0, ?_⟩
      · exact sm (m := 12) (by have := ok.le; have := pr.length; simp at this; omega) (by decide)
      · rw [take_snoc hl]
        refine Paired.snoc (pr.mono fun v l' h => ?_) ⟨t, rfl, upd_same⟩
        obtain ⟨t', e, h⟩ := h
        exact ⟨t', e, sp.newk ht _ _ h⟩
    rintro H3 ⟨K2, acc, g2, sp7, pr⟩
    rw [List.take_of_length_le (Nat.le_of_eq hlen.symm)] at pr
    refine ⟨_, _, keyOf K2, rfl, l_of sp7.c0, fun v m => ?_, fun ys p hsd hst hpf => ?_⟩
    · obtain ⟨t, i, s, rfl, h, e⟩ := ranked_mem pr m
      exact ⟨t, rfl, by rw [e]; exact sp7.ext _ _ h⟩
    have sp8 := sp7.tail.own (o := .lst ys) hpf
    have pm := hst.perm
    have lenY : ys.length = ls.length := by rw [pm.length_eq, pr.length]
    refine ⟨_, rfl, _, rfl, ⟨_, l_of sp8.c0⟩, fun D3 hD3 => ?_⟩
    refine lc_it (walk_list (xs := ys)) (fun i H' => Sep K2 H' ((D3, .lst ((ys.take i).map fun v => .str (keyOf K2 v).2)) :: (p, .lst ys) :: (x, .ins (aC "Setup" K) dx [("_lines", .ref a), ("_works", .ref b), ("_by_name", .ref D)]) :: M)) (sp8.own hD3) ?_ ?_ ?_
    · rintro i H' _ sp
      exact l_of sp.c1
    · rintro i v H1 H2 hi sp ⟨rfl, e2⟩
      obtain ⟨t, j, s, rfl, h, e⟩ := ranked_mem pr (pm.mem_iff.mp (List.mem_of_getElem? e2))
      refine ⟨_, _, rfl, t_of (sp.ext _ _ h), rfl, _, _, rfl, _, _, rfl, rfl, ?_⟩
      refine ⟨rfl, ⟨_, rfl, _, sp.c0, ?_, ?_⟩⟩
      · exact sm (m := 12) (by have := ok.le; simp; omega) (by decide)
      · rw [take_snoc e2, List.map_append]
        have z := sp.put0 (o' := .lst (List.map (fun v => V.str (keyOf K2 v).2) (List.take i ys) ++ [V.str s]))
        simpa [e] using z
    rintro H4 sp9
    rw [List.take_of_length_le (Nat.le_refl _)] at sp9
    refine ⟨_, _, rfl, .inl ⟨l_of sp9.c0, fun oa hoa => ?_⟩⟩
    have sp10 := sp9.keep (o := .tup (ys.map fun v => .str (keyOf K2 v).2)) hoa
    have g3 := sp9.newk (o := .tup (ys.map fun v => .str (keyOf K2 v).2)) hoa
    have hoa1 : upd K2 oa (.tup (ys.map fun v => .str (keyOf K2 v).2)) oa = some (.tup (ys.map fun v => .str (keyOf K2 v).2)) := upd_same
    revert sp10 g3 hoa1
    generalize upd K2 oa (.tup (ys.map fun v => .str (keyOf K2 v).2)) = K3
    intro sp10 g3 hoa1
    have sp11 := sp10.tail.tail
    refine ⟨_, rfl, _, _, _, _, rfl, sp11.c0, T.cl_Setup, T.t_Setup_order, (by simp), ?_⟩
    have sp12 := sp11.put0 (o' := .ins (aC "Setup" K) dx [("_lines", .ref a), ("_works", .ref b), ("_by_name", .ref D), ("_order", .ref oa)])
    have g4 := sp12.new0
    have gA := Same.tr g1 (Same.tr g2 (Same.tr g3 g4))
    refine q _ _ ⟨ls, ws, ys.map fun v => (keyOf K2 v).2⟩ gA sp12.freeze ⟨dx, a, b, D, oa, xs, upd_same, LinesAt.up gA ⟨xs, hs, hp⟩, WorksAt.up gA hw, Same.tr g2 (Same.tr g3 g4) _ _ hD1, hp.mono fun _ _ z => LineAt.up gA z, ?_⟩ rfl rfl ⟨ok, okw, oks, ?_, srt_of ok.nd pr pm hsd⟩
    · have z := g4 _ _ hoa1
      simpa [Function.comp_def] using z
    · have z := pm.map (fun v => (keyOf K2 v).2)
      rw [ranked_names pr] at z
      exact z
theorem ok_Setup_init {fd : FuncData} (T : Txt K mg) {dv : V} (F : FunD K "__init__" "Setup.__init__" (C8.fnArgs s_Setup_init) (C8.fnBody s_Setup_init) (C8.fnScope s_Setup_init) [dv] [] (He.ma K (aC "Setup" K) "__init__") fd) (c_check_setup : C8.Cal P w K mg base 5 "check_setup" (sp_check_setup K) []) :
    C8.Mak P w K mg base 6 "Setup" (aC "Setup" K) (sp_Setup_init K) [] := by
  exact ⟨_, fd, _, [], T.mk_Setup, fnok_Setup_init T F c_check_setup, T.g_Setup, bind_Setup_init F, .nil⟩
theorem ok_Setup_init1 {fd : FuncData} (T : Txt K mg) {dv : V} (F : FunD K "__init__" "Setup.__init__" (C8.fnArgs s_Setup_init) (C8.fnBody s_Setup_init) (C8.fnScope s_Setup_init) [dv] [] (He.ma K (aC "Setup" K) "__init__") fd) (c_check_setup : C8.Cal P w K mg base 5 "check_setup" (sp_check_setup K) []) :
    C8.Mak P w K mg base 6 "Setup" (aC "Setup" K) (sp_Setup_init K) [dv] := by
  obtain ⟨ds, hv, hb⟩ := F.binds1 (ps := ["self", "lines", "works"]) 2 0 (by simp) rfl (fun T kV doc pm an cdv ct us its h1 h2 => match us, its, h1, h2 with | [_, _], [_], _, _ => ⟨_, rfl, rfl⟩)
  exact ⟨_, fd, _, ds, T.mk_Setup, fnok_Setup_init T F c_check_setup, T.g_Setup, hb, hv⟩
end
end Cb

namespace Cb
open PySem PySem.Spec PyProof.Rows L2
section
variable {X : Cx} {k j : Nat} {C : Addr} {sp : Sp}
theorem C_nin (M : C8.Met X.prog X.w X.K X.mg X.base k C "__contains__" sp []) (hr : Room j X.A) (hj : k ≤ j) : OpR X (compareOp .NotIn) (rOwnB C sp C8.E0 not) := by
  obtain ⟨f, fd, ps, ds, hc, hm, F, hb, hv⟩ := M.ex
  cases hv
  exact op_ninOwn F (hr.mono hj) hb (fun _ _ _ _ _ _ _ h => h.elim) hm.at_ hm.fn
theorem C_in (M : C8.Met X.prog X.w X.K X.mg X.base k C "__contains__" sp []) (hr : Room j X.A) (hj : k ≤ j) : OpR X (compareOp .In) (rOwnB C sp C8.E0 id) := by
  obtain ⟨f, fd, ps, ds, hc, hm, F, hb, hv⟩ := M.ex
  cases hv
  exact op_inOwn F (hr.mono hj) hb (fun _ _ _ _ _ _ _ h => h.elim) hm.at_ hm.fn
theorem C_ix {a b : Expr} {ta tb : TE} {pos : Pos} {f0 : Addr} (h0 : Meth X.K C "__getitem__" f0) (h1 : PySem.W.fnIn X.K f0 = true) (M : C8.Met X.prog X.w X.K X.mg X.base k C "__getitem__" sp []) (hr : Room j X.A) (hj : k + 1 ≤ j) (ha : PE X a ta) (hi : PE X b tb)
    (hsl : ∀ o i, subscripted b true o i = runValue (.builtin "lifetime.subscript" ⟨[o, i], []⟩) := by intro _ _; rfl) : PE X (.Subscript a b pos) (tOp (rOwnI C sp C8.E0) ta tb) := by
  obtain ⟨f, fd, ps, ds, hc, hm, F, hb, hv⟩ := M.ex
  cases hv
  have e : f0 = f := by
    have z := h0.at_.symm.trans hm.at_
    injection z with z
    injection z with z
    injection z
  subst e
  exact pe_ixOwn F (hr.mono hj) hb (fun _ _ _ _ _ _ _ h => h.elim) hm.at_ hm.fn h1 ha hi hsl
theorem C_prop {e : Expr} {ta : TE} {f : Str} {p g : Addr} {pos : Pos} (hp : PropOf X.K C f p g) (hc : Cls X.K C) (M : FnP X.prog X.w X.K X.mg X.base k g sp) (hr : Room j X.A) (hj : k + 1 ≤ j) (he : PE X e ta) (hb2 : attributeBase e f X.env (eval e X.env) = eval e X.env := by rfl) : PE X (.Attribute e f pos) (tProp C sp [] C8.E0 ta) := by
  obtain ⟨fd, ps, F, hb⟩ := M.ex
  exact pe_prop he hc hp F (hr.mono hj) hb .nil (fun _ _ _ _ _ _ _ h => h.elim) hb2
end
end Cb

namespace Cb
open PySem PySem.Spec PyProof.Rows L2

def sp_Setup_getitem (K : PySem.W.Frag) : Sp := fun vs H Q _ => ∃ (su : Addr) (S : SetD) (l : LineD) (K0 : Hp), vs = [.ref su, .str l.name] ∧ SetupAt K K0 su S ∧ Same K0 H ∧ SetOk S ∧ l ∈ S.ls ∧ ∀ v, LineAt K K0 v l → Q v H
def sp_Setup_order (K : PySem.W.Frag) : Sp := fun vs H Q _ => ∃ (su : Addr) (S : SetD) (K0 : Hp), vs = [.ref su] ∧ SetupAt K K0 su S ∧ Same K0 H ∧ ∀ oa, K0 oa = some (.tup (S.order.map V.str)) → Q (.ref oa) H
def SD.run? : SD → Option Int
  | .run n => some n
  | _ => none
def LineD.ticks (l : LineD) : Int := (l.steps.filterMap SD.run?).sum
def sp_Setup_ticks_of (K : PySem.W.Frag) : Sp := fun vs H Q _ => ∃ (su : Addr) (S : SetD) (l : LineD), vs = [.ref su, .str l.name] ∧ SetupAt K H su S ∧ SetOk S ∧ l ∈ S.ls ∧ ∀ H', Same H H' → Q (.int l.ticks) H'
theorem scal_str (x y : Str) : scal (.str x) (.str y) = true := rfl
theorem Sep.of (H : Hp) : Sep H H [] := Sep.nil
theorem Sep.own' {K0 H H' : Hp} {L : List (Addr × HO)} (s : Sep K0 H L) (g : Same H H') {p : Addr} {o : HO} (h : H p = none) (h' : H' p = some o) : Sep K0 H' ((p, o) :: L) := by
  obtain ⟨h0, hm⟩ := s.free h
  refine ⟨Same.tr s.ext g, List.nodup_cons.mpr ⟨hm, s.nd⟩, fun a ma => ?_, h', (s.grow g).cs⟩
  rcases List.mem_cons.mp ma with z | z
  · exact z ▸ h0
  · exact s.fr a z

section
variable {P : Program} {w : World} {K : PySem.W.Frag} {mg : Str → Option Value} {base : Heap}

abbrev N_Setup_getitem : List Str := ["self", "at"]
theorem sc_Setup_getitem : FnScope N_Setup_getitem ["self", "at"] (C8.fnScope s_Setup_getitem) := C8.fnScope_by (by decide +kernel)
theorem ok_Setup_getitem {fd : FuncData} (T : Txt K mg) (F : FunD K "__getitem__" "Setup.__getitem__" (C8.fnArgs s_Setup_getitem) (C8.fnBody s_Setup_getitem) (C8.fnScope s_Setup_getitem) [] [] (He.ma K (aC "Setup" K) "__getitem__") fd) (c_contains : C8.Met P w K mg base 1 (aC "Setup" K) "__contains__" (sp_Setup_contains K) []) :
    C8.Met P w K mg base 2 (aC "Setup" K) "__getitem__" (sp_Setup_getitem K) [] := by
  refine C8.met0 T.cl_Setup T.m_Setup_getitem (fun_c8 F) (F.bindsN fun _ _ _ _ _ _ us hl => match us, hl with | [_, _], _ => rfl) sc_Setup_getitem (fun vs H Q E h => ?_) (fun cdv A outer s H vs Q E hr h => ?_)
  · obtain ⟨_, _, _, _, rfl, _⟩ := h
    rfl
  · have nd := sc_Setup_getitem.nd
    have hu := hu_of hr
    obtain ⟨su, S, l, K0, rfl, hS0, e0, ok, hl, q⟩ := h
    refine ⟨_, (pss_cons (ps_if (pt_cmpR (C_nin c_contains hr (by decide)) (pv 1) (pv 0) (by rfl)) (pss_one ps_never) pss_nil)
      (pss_one (ps_ret (pe_dget hu (pe_fld (pv 0) rfl) (pv 1) (fun _ _ => rfl))))), ?_⟩
    have hS := SetupAt.up e0 hS0
    obtain ⟨dx, la, wa, bn, oa, xs, h1', h2, h3, h4', h5, h6⟩ := hS0
    have h1 := e0 _ _ h1'
    have h4 := e0 _ _ h4'
    refine ⟨_, rfl, _, rfl, su, dx, _, rfl, h1, ⟨su, S, _, rfl, hS, ok, _, rfl, false, by rw [decide_eq_true (List.mem_map_of_mem hl)]; rfl, iteF ?_⟩⟩
    obtain ⟨i, hi⟩ := List.mem_iff_getElem?.mp hl
    obtain ⟨v, hv, hL⟩ := pgetr h5 hi
    exact ⟨_, rfl, _, _, _, _, _, rfl, h1, T.cl_Setup, T.t_Setup_by_name, rfl, _, rfl, _, v, rfl, byN_at ok.ok.nd hi hv ▸ DGet.k (k := .inr l.name) h4, q v hL⟩
abbrev N_Setup_order : List Str := ["self"]
theorem sc_Setup_order : FnScope N_Setup_order ["self"] (C8.fnScope s_Setup_order) := C8.fnScope_by (by decide +kernel)
theorem ok_Setup_order {fd : FuncData} (T : Txt K mg) (F : FunD K "order" "Setup.order" (C8.fnArgs s_Setup_order) (C8.fnBody s_Setup_order) (C8.fnScope s_Setup_order) [] [] (prA "Setup" "order" K) fd) :
    FnP P w K mg base 1 (prA "Setup" "order" K) (sp_Setup_order K) := by
  refine fnP_mk (fun_c8 F) (F.bindsN fun _ _ _ _ _ _ us hl => match us, hl with | [_], _ => rfl) sc_Setup_order (fun vs H Q E h => ?_) (fun cdv A outer s H vs Q E hr h => ?_)
  · obtain ⟨_, _, _, rfl, _⟩ := h
    rfl
  · have nd := sc_Setup_order.nd
    have hu := hu_of hr
    obtain ⟨su, S, K0, rfl, ⟨dx, la, wa, bn, oa, xs, h1, h2, h3, h4, h5, h6⟩, sm, q⟩ := h
    refine ⟨_, (pss_one (ps_ret (pe_fld (pv 0) rfl))), ?_⟩
    exact ⟨_, rfl, _, _, _, _, _, rfl, sm _ _ h1, T.cl_Setup, T.t_Setup_order, rfl, q oa h6⟩
abbrev N_Setup_ticks_of : List Str := ["self", "line", "word", "what"]
theorem sc_Setup_ticks_of : FnScope N_Setup_ticks_of ["self", "line"] (C8.fnScope s_Setup_ticks_of) := C8.fnScope_by (by decide +kernel)
theorem ok_Setup_ticks_of {fd : FuncData} (T : Txt K mg) (F : FunD K "ticks_of" "Setup.ticks_of" (C8.fnArgs s_Setup_ticks_of) (C8.fnBody s_Setup_ticks_of) (C8.fnScope s_Setup_ticks_of) [] [] (He.ma K (aC "Setup" K) "ticks_of") fd) (c_getitem : C8.Met P w K mg base 2 (aC "Setup" K) "__getitem__" (sp_Setup_getitem K) []) :
    C8.Met P w K mg base 4 (aC "Setup" K) "ticks_of" (sp_Setup_ticks_of K) [] := by
  refine C8.met0 T.cl_Setup T.m_Setup_ticks_of (fun_c8 F) (F.bindsN fun _ _ _ _ _ _ us hl => match us, hl with | [_, _], _ => rfl) sc_Setup_ticks_of (fun vs H Q E h => ?_) (fun cdv A outer s H vs Q E hr h => ?_)
  · obtain ⟨_, _, _, rfl, _⟩ := h
    rfl
  · have nd := sc_Setup_ticks_of.nd
    have hu := hu_of hr
    obtain ⟨su, S, l, rfl, hS, ok, hl, q⟩ := h
    refine ⟨_, (pss_one (ps_ret (pe_callB (cr_sum rfl) (by rfl) T.n_sum (by decide +kernel) (pa_cons (pe_lc (own := [("word", 2), ("what", 3)]) rfl nd (pi_tup (pe_ix ix_tup (C_ix T.m_Setup_getitem T.i_getitem c_getitem hr (by decide) (pv 0) (pv 1)) pe_int (fun _ _ => rfl))) (blkOk_by (own := [("word", 2), ("what", 3)]) (N := N_Setup_ticks_of) (sc := (C8.fnScope s_Setup_ticks_of)) (by decide +kernel)) (fun _ _ _ _ _ => (pg_tup (n := 2) rfl (pgs_cons (pg_name (i := 2) nd rfl (Or.inl rfl)) (pgs_cons (pg_name (i := 3) nd rfl (Or.inl rfl)) pgs_nil)) : PG _ _ (gTup K 2 _))) (fun _ _ _ _ _ => (pts_one (pt_cmpR op_eq (pv 2) pe_str (nomark _)))) (fun _ _ _ _ _ => (pv 3))) pa_nil)))), ?_⟩
    obtain ⟨dx, la, wa, bn, oa, xs, h1, h2, h3, h4, h5, h6⟩ := id hS
    refine ⟨_, rfl, _, rfl, su, dx, _, rfl, h1, su, S, l, H, rfl, hS, Same.refl H, ok, hl, fun v hv => ?_⟩
    obtain ⟨a, g, gs, rfl, ha, hg, hp⟩ := hv
    have hlen := hp.length
    refine ⟨_, _, _, _, rfl, rfl, ha, rfl, _, rfl, ⟨_, hg⟩, fun D hD => ?_⟩
    refine lc_it (walk_tup (xs := gs)) (fun i H' => Sep H H' [(D, .lst (((l.steps.take i).filterMap SD.run?).map V.int))]) (Sep.nil.own hD) ?_ ?_ ?_
    · rintro i H' _ sp
      exact Same.tup sp.ext hg
    · rintro i v H1 H2 hi sp ⟨rfl, e2⟩
      obtain ⟨st, hst, b, rfl, hb⟩ := pget hp e2
      refine ⟨_, _, rfl, Same.tup sp.ext hb, rfl, _, _, rfl, _, _, rfl, rfl, rfl, _, rfl, rfl, ?_⟩
      rw [take_snoc hst, List.filterMap_append, List.map_append]
      cases st with
      | run n =>
        refine ⟨true, rfl, iteT ⟨_, rfl, _, sp.c0, ?_, sp.put0⟩⟩
        have h1 := List.length_filterMap_le SD.run? (l.steps.take i)
        have h2 := (ok.ok.ok l hl).s8
        exact sm (m := 12) (by simp at h1 ⊢; omega) (by decide)
      | later x => exact ⟨false, rfl, iteF (by rw [show (List.filterMap SD.run? [SD.later x]).map V.int = [] from rfl, List.append_nil]; exact sp)⟩
    · rintro H1 sp
      rw [List.take_of_length_le (Nat.le_of_eq hlen.symm)] at sp
      exact ⟨_, _, rfl, l_of sp.c0, q H1 sp.ext⟩
end
end Cb

namespace Cb
open PySem PySem.Spec PyProof.Rows L2

def bd (o : List Str) (f : Str → Bool) : List (Key × V) := o.map fun n => (.inr n, .bl (f n))
def fset (f : Str → Bool) (n : Str) (b : Bool) : Str → Bool := fun m => if m = n then b else f m
theorem bd_at {f : Str → Bool} {n : Str} : ∀ {o : List Str}, n ∈ o → valV (bd o f) (.inr n) = some (.bl (f n))
  | m :: o, h => by
    by_cases e : m = n
    · subst e
      simp [bd, valV]
    · have z := bd_at (f := f) (o := o) ((List.mem_cons.mp h).resolve_left fun q => e q.symm)
      unfold bd valV at z ⊢
      rw [List.map_cons, List.find?_cons_of_neg (by simp [e])]
      exact z
theorem putK_bd {f : Str → Bool} {n : Str} {b : Bool} {o : List Str} (h : n ∈ o) : putK (bd o f) (.inr n) (.bl b) = bd o (fset f n b) := by
  unfold putK
  rw [if_pos]
  · unfold bd fset
    rw [List.map_map]
    refine List.map_congr_left fun m _ => ?_
    by_cases e : m = n
    · subst e; simp
    · have e2 : ¬ (Sum.inr m : Key) = Sum.inr n := fun q => e (by injection q)
      simp [e, e2]
  · exact List.any_eq_true.mpr ⟨_, List.mem_map_of_mem h, by simp⟩
theorem bd_snoc {f : Str → Bool} {o : List Str} (nd : o.Nodup) {i : Nat} {n : Str} (h : o[i]? = some n) : putK (bd (o.take i) f) (.inr n) (.bl (f n)) = bd (o.take (i + 1)) f := by
  rw [take_snoc h, putK_new]
  · simp [bd]
  · intro e m q
    obtain ⟨k, hk, rfl⟩ := List.mem_map.mp m
    injection q with q
    exact nodup_take nd h (q ▸ hk)
def md (o : List Str) (f : Str → Int) : List (Key × V) := o.map fun n => (.inr n, .int (f n))
def nset (f : Str → Int) (n : Str) (b : Int) : Str → Int := fun m => if m = n then b else f m
theorem md_at {f : Str → Int} {n : Str} : ∀ {o : List Str}, n ∈ o → valV (md o f) (.inr n) = some (.int (f n))
  | m :: o, h => by
    by_cases e : m = n
    · subst e
      simp [md, valV]
    · have z := md_at (f := f) (o := o) ((List.mem_cons.mp h).resolve_left fun q => e q.symm)
      unfold md valV at z ⊢
      rw [List.map_cons, List.find?_cons_of_neg (by simp [e])]
      exact z
theorem putK_md {f : Str → Int} {n : Str} {b : Int} {o : List Str} (h : n ∈ o) : putK (md o f) (.inr n) (.int b) = md o (nset f n b) := by
  unfold putK
  rw [if_pos]
  · unfold md nset
    rw [List.map_map]
    refine List.map_congr_left fun m _ => ?_
    by_cases e : m = n
    · subst e; simp
    · have e2 : ¬ (Sum.inr m : Key) = Sum.inr n := fun q => e (by injection q)
      simp [e, e2]
  · exact List.any_eq_true.mpr ⟨_, List.mem_map_of_mem h, by simp⟩
theorem md_snoc {f : Str → Int} {o : List Str} (nd : o.Nodup) {i : Nat} {n : Str} (h : o[i]? = some n) : putK (md (o.take i) f) (.inr n) (.int (f n)) = md (o.take (i + 1)) f := by
  rw [take_snoc h, putK_new]
  · simp [md]
  · intro e m q
    obtain ⟨k, hk, rfl⟩ := List.mem_map.mp m
    injection q with q
    exact nodup_take nd h (q ▸ hk)
theorem SetOk.nd {S : SetD} (h : SetOk S) : S.order.Nodup := h.perm.nodup_iff.mpr h.ok.nd
theorem SetOk.mem {S : SetD} (h : SetOk S) {l : LineD} (m : l ∈ S.ls) : l.name ∈ S.order := h.perm.mem_iff.mpr (List.mem_map_of_mem m)
theorem SetOk.line {S : SetD} (h : SetOk S) {n : Str} (m : n ∈ S.order) : ∃ l ∈ S.ls, l.name = n := List.mem_map.mp (h.perm.mem_iff.mp m)
theorem SetOk.len {S : SetD} (h : SetOk S) : S.order.length ≤ 12 := by
  have z := h.perm.length_eq
  simp at z
  have := h.ok.le
  omega
def no : Str → Bool := fun _ => false
structure BoardAt (K : PySem.W.Frag) (H : Hp) (bo su : Addr) (S : SetD) (r u : Addr) : Prop where
  ex : ∃ dx d fl mg, H bo = some (.ins (aC "Board" K) dx [("_setup", .ref su), ("_rung", .ref r), ("_disabled", .ref d), ("_under_way", .ref u), ("_flags", .ref fl), ("_merges", .ref mg)]) ∧ H d = some (.dK (bd S.order no))
  su : SetupAt K H su S
  ok : SetOk S
  ed : ∀ l ∈ S.ls, l.lvl = false
theorem BoardAt.up {K : PySem.W.Frag} {H H' : Hp} {bo su r u : Addr} {S : SetD} (e : Same H H') (h : BoardAt K H bo su S r u) : BoardAt K H' bo su S r u := by
  obtain ⟨dx, d, fl, mg, h1, h2⟩ := h.ex
  exact ⟨⟨dx, d, fl, mg, e _ _ h1, e _ _ h2⟩, SetupAt.up e h.su, h.ok, h.ed⟩
def no0 : Str → Int := fun _ => 0
structure MgAt (K : PySem.W.Frag) (H : Hp) (bo m : Addr) : Prop where
  ex : ∃ dx su r d u fl, H bo = some (.ins (aC "Board" K) dx [("_setup", .ref su), ("_rung", .ref r), ("_disabled", .ref d), ("_under_way", .ref u), ("_flags", .ref fl), ("_merges", .ref m)])
theorem MgAt.up {K : PySem.W.Frag} {H H' : Hp} {bo m : Addr} (e : Same H H') (h : MgAt K H bo m) : MgAt K H' bo m := by
  obtain ⟨dx, su, r, d, u, fl, h1⟩ := h.ex
  exact ⟨dx, su, r, d, u, fl, e _ _ h1⟩
theorem MgAt.uniq {K : PySem.W.Frag} {H : Hp} {bo m dx su r d u fl mg : Addr} (h : MgAt K H bo m) (h1 : H bo = some (.ins (aC "Board" K) dx [("_setup", .ref su), ("_rung", .ref r), ("_disabled", .ref d), ("_under_way", .ref u), ("_flags", .ref fl), ("_merges", .ref mg)])) : mg = m := by
  obtain ⟨_, _, _, _, _, _, h2⟩ := h.ex
  rw [h1] at h2
  simp at h2
  exact h2.2.2.2.2.2.2
def ringR (b : Bool) : Str := if b = true then "merged" else "waits"
def sp_put_changed : Sp := fun vs H Q _ => ∃ (a : Addr) (n : Str) (b : Bool) (o : List Str) (f : Str → Bool), vs = [.ref a, .str n, .bl b] ∧ H a = some (.dK (bd o f)) ∧ n ∈ o ∧ o.length ≤ 12 ∧ Q (.bl (!decide (V.bl (f n) = V.bl b))) (upd H a (.dK (bd o (fset f n b))))
def sp_Board_init (K : PySem.W.Frag) : Sp := fun vs H Q _ => ∃ (x dx su : Addr) (S : SetD) (K0 : Hp) (M : List (Addr × HO)), vs = [.ref x, .ref su] ∧ Sep K0 H ((x, .ins (aC "Board" K) dx []) :: M) ∧ SetupAt K K0 su S ∧ SetOk S ∧ (∀ l ∈ S.ls, l.lvl = false) ∧
  ∀ K1 H' r u m, Same K0 K1 → BoardAt K K1 x su S r u → MgAt K K1 x m → Sep K1 H' ((r, .dK (bd S.order no)) :: (u, .dK (bd S.order no)) :: (m, .dK (md S.order no0)) :: M) → Q .non H'
def sp_Board_check_line (K : PySem.W.Frag) : Sp := fun vs H Q _ => ∃ (bo su r u : Addr) (S : SetD) (l : LineD), vs = [.ref bo, .str l.name] ∧ BoardAt K H bo su S r u ∧ l ∈ S.ls ∧ Q .non H
def sp_Board_is_edge (K : PySem.W.Frag) : Sp := fun vs H Q _ => ∃ (bo su r u : Addr) (S : SetD) (l : LineD), vs = [.ref bo, .str l.name] ∧ BoardAt K H bo su S r u ∧ l ∈ S.ls ∧ Q (.bl true) H
def sp_Board_ring (K : PySem.W.Frag) : Sp := fun vs H Q _ => ∃ (bo su r u : Addr) (S : SetD) (l : LineD) (K0 : Hp) (f : Str → Bool) (M : List (Addr × HO)) (m : Addr) (c : Str → Int), vs = [.ref bo, .str l.name] ∧ BoardAt K K0 bo su S r u ∧ MgAt K K0 bo m ∧ l ∈ S.ls ∧ Sep K0 H ((r, .dK (bd S.order f)) :: (m, .dK (md S.order c)) :: M) ∧
  ∀ H' x c', x = ringR (f l.name) → Sep K0 H' ((r, .dK (bd S.order (fset f l.name true))) :: (m, .dK (md S.order c')) :: M) → Q (.str x) H'
def sp_Board_begin (K : PySem.W.Frag) : Sp := fun vs H Q _ => ∃ (bo su r u : Addr) (S : SetD) (l : LineD) (K0 : Hp) (f g : Str → Bool) (M : List (Addr × HO)), vs = [.ref bo, .str l.name] ∧ BoardAt K K0 bo su S r u ∧ l ∈ S.ls ∧ Sep K0 H ((r, .dK (bd S.order f)) :: (u, .dK (bd S.order g)) :: M) ∧
  ∀ H', Sep K0 H' ((r, .dK (bd S.order (fset f l.name false))) :: (u, .dK (bd S.order (fset g l.name true))) :: M) → Q .non H'
def sp_Board_end (K : PySem.W.Frag) : Sp := fun vs H Q _ => ∃ (bo su r u : Addr) (S : SetD) (l : LineD) (K0 : Hp) (g : Str → Bool) (M : List (Addr × HO)), vs = [.ref bo, .str l.name] ∧ BoardAt K K0 bo su S r u ∧ l ∈ S.ls ∧ Sep K0 H ((u, .dK (bd S.order g)) :: M) ∧
  ∀ H', Sep K0 H' ((u, .dK (bd S.order (fset g l.name false))) :: M) → Q .non H'
def sp_Board_waits (K : PySem.W.Frag) : Sp := fun vs H Q _ => ∃ (bo su r u : Addr) (S : SetD) (l : LineD) (f : Str → Bool), vs = [.ref bo, .str l.name] ∧ BoardAt K H bo su S r u ∧ l ∈ S.ls ∧ H r = some (.dK (bd S.order f)) ∧ Q (.bl (f l.name)) H
def sp_Board_is_enabled (K : PySem.W.Frag) : Sp := fun vs H Q _ => ∃ (bo su r u : Addr) (S : SetD) (l : LineD), vs = [.ref bo, .str l.name] ∧ BoardAt K H bo su S r u ∧ l ∈ S.ls ∧ Q (.bl true) H
def sp_Board_waiting_lines (K : PySem.W.Frag) : Sp := fun vs H Q _ => ∃ (bo su r u : Addr) (S : SetD) (f : Str → Bool), vs = [.ref bo] ∧ BoardAt K H bo su S r u ∧ H r = some (.dK (bd S.order f)) ∧
  ∀ p H', Same H H' → H p = none → H' p = some (.lst ((S.order.filter f).map V.str)) → Q (.ref p) H'
def sp_Board_ready_lines (K : PySem.W.Frag) : Sp := fun vs H Q _ => ∃ (bo su r u : Addr) (S : SetD) (f g : Str → Bool), vs = [.ref bo] ∧ BoardAt K H bo su S r u ∧ H r = some (.dK (bd S.order f)) ∧ H u = some (.dK (bd S.order g)) ∧
  ∀ p H', Same H H' → H p = none → H' p = some (.lst (((S.order.filter f).filter fun n => !g n).map V.str)) → Q (.ref p) H'

section
variable {P : Program} {w : World} {K : PySem.W.Frag} {mg : Str → Option Value} {base : Heap}

abbrev N_put_changed : List Str := ["table", "at", "value", "was"]
theorem sc_put_changed : FnScope N_put_changed ["table", "at", "value"] (C8.fnScope s_put_changed) := C8.fnScope_by (by decide +kernel)
theorem ok_put_changed {fd : FuncData} (T : Txt K mg) (F : FunD K "put_changed" "put_changed" (C8.fnArgs s_put_changed) (C8.fnBody s_put_changed) (C8.fnScope s_put_changed) [] [] (He.ga K "put_changed") fd) :
    C8.Cal P w K mg base 1 "put_changed" sp_put_changed [] := by
  refine C8.cal0 (ds := []) ⟨fun_c8 F, T.f_put_changed, F.kp⟩ (F.bindsN fun _ _ _ _ _ _ us hl => match us, hl with | [_, _, _], _ => rfl) .nil sc_put_changed (fun vs H Q E h => ?_) (fun cdv A outer s H vs Q E hr h => ?_)
  · obtain ⟨_, _, _, _, _, rfl, _⟩ := h
    rfl
  · have nd := sc_put_changed.nd
    have hu := hu_of hr
    obtain ⟨a, n, b, o, f, rfl, ha, hn, hl, q⟩ := h
    refine ⟨_, (pss_cons (ps_set (i := 3) nd rfl (Or.inl rfl) (pe_dget hu (pv 0) (pv 1) (fun _ _ => rfl)))
      (pss_cons (ps_dput hu (pv 0) (pv 1) (pv 2) rfl)
      (pss_one (ps_ret (pe_cmpR op_ne (pv 3) (pv 2) (nomark _)))))), ?_⟩
    refine ⟨_, rfl, _, rfl, a, _, rfl, bd_at hn ▸ DGet.k (k := .inr n) ha, ?_⟩
    have dp := DPut.k (k := .inr n) (v := .bl b) ha (sm (m := 12) (by simpa [bd] using hl) (by decide))
    rw [putK_bd hn] at dp
    exact ⟨_, rfl, _, rfl, _, rfl, a, _, rfl, dp, _, rfl, _, rfl, rfl, q⟩
abbrev N_Board_check_line : List Str := ["self", "line"]
theorem sc_Board_check_line : FnScope N_Board_check_line ["self", "line"] (C8.fnScope s_Board_check_line) := C8.fnScope_by (by decide +kernel)
theorem ok_Board_check_line {fd : FuncData} (T : Txt K mg) (F : FunD K "_check_line" "Board._check_line" (C8.fnArgs s_Board_check_line) (C8.fnBody s_Board_check_line) (C8.fnScope s_Board_check_line) [] [] (He.ma K (aC "Board" K) "_check_line") fd) (c_contains : C8.Met P w K mg base 1 (aC "Setup" K) "__contains__" (sp_Setup_contains K) []) :
    C8.Met P w K mg base 2 (aC "Board" K) "_check_line" (sp_Board_check_line K) [] := by
  refine C8.met0 T.cl_Board T.m_Board_check_line (fun_c8 F) (F.bindsN fun _ _ _ _ _ _ us hl => match us, hl with | [_, _], _ => rfl) sc_Board_check_line (fun vs H Q E h => ?_) (fun cdv A outer s H vs Q E hr h => ?_)
  · obtain ⟨_, _, _, _, _, _, rfl, _⟩ := h
    rfl
  · have nd := sc_Board_check_line.nd
    have hu := hu_of hr
    obtain ⟨bo, su, r, u, S, l, rfl, B, hl, q⟩ := h
    refine ⟨_, (pss_one (ps_if (pt_cmpR (C_nin c_contains hr (by decide)) (pv 1) (pe_fld (pv 0) rfl) (by rfl)) (pss_one ps_never) pss_nil)), ?_⟩
    obtain ⟨dx, d, fl, mg, h1, h2⟩ := B.ex
    obtain ⟨dx2, _, _, _, _, _, h3, _⟩ := B.su.ex
    refine ⟨_, rfl, _, rfl, _, _, _, _, _, rfl, h1, T.cl_Board, T.t_Board_setup, rfl, su, dx2, _, rfl, h3, su, S, _, rfl, B.su, B.ok, _, rfl, false, by rw [decide_eq_true (List.mem_map_of_mem hl)]; rfl, iteF q⟩
abbrev N_Board_is_edge : List Str := ["self", "line"]
theorem sc_Board_is_edge : FnScope N_Board_is_edge ["self", "line"] (C8.fnScope s_Board_is_edge) := C8.fnScope_by (by decide +kernel)
theorem ok_Board_is_edge {fd : FuncData} (T : Txt K mg) (F : FunD K "_is_edge" "Board._is_edge" (C8.fnArgs s_Board_is_edge) (C8.fnBody s_Board_is_edge) (C8.fnScope s_Board_is_edge) [] [] (He.ma K (aC "Board" K) "_is_edge") fd) (c_getitem : C8.Met P w K mg base 2 (aC "Setup" K) "__getitem__" (sp_Setup_getitem K) []) :
    C8.Met P w K mg base 4 (aC "Board" K) "_is_edge" (sp_Board_is_edge K) [] := by
  refine C8.met0 T.cl_Board T.m_Board_is_edge (fun_c8 F) (F.bindsN fun _ _ _ _ _ _ us hl => match us, hl with | [_, _], _ => rfl) sc_Board_is_edge (fun vs H Q E h => ?_) (fun cdv A outer s H vs Q E hr h => ?_)
  · obtain ⟨_, _, _, _, _, _, rfl, _⟩ := h
    rfl
  · have nd := sc_Board_is_edge.nd
    have hu := hu_of hr
    obtain ⟨bo, su, r, u, S, l, rfl, B, hl, q⟩ := h
    refine ⟨_, (pss_one (ps_ret (pe_cmpR op_eq (pe_ix ix_tup (C_ix T.m_Setup_getitem T.i_getitem c_getitem hr (by decide) (pe_fld (pv 0) rfl) (pv 1)) pe_int (fun _ _ => rfl)) pe_str (nomark _)))), ?_⟩
    obtain ⟨dx, d, fl, mg, h1, h2⟩ := B.ex
    obtain ⟨dx2, _, _, _, _, _, h3, _⟩ := B.su.ex
    refine ⟨_, rfl, _, _, _, _, _, rfl, h1, T.cl_Board, T.t_Board_setup, rfl, _, rfl, su, dx2, _, rfl, h3, su, S, l, H, rfl, B.su, Same.refl H, B.ok, hl, fun v hv => ?_⟩
    obtain ⟨a, g, gs, rfl, ha, _⟩ := hv
    exact ⟨_, _, _, _, rfl, rfl, ha, rfl, rfl, (congrArg (fun b => Q (.bl b) H) (by rw [B.ed l hl]; rfl)).mp q⟩
abbrev N_Board_ring : List Str := ["self", "line"]
theorem sc_Board_ring : FnScope N_Board_ring ["self", "line"] (C8.fnScope s_Board_ring) := C8.fnScope_by (by decide +kernel)
theorem ok_Board_ring {fd : FuncData} (T : Txt K mg) (F : FunD K "ring" "Board.ring" (C8.fnArgs s_Board_ring) (C8.fnBody s_Board_ring) (C8.fnScope s_Board_ring) [] [] (He.ma K (aC "Board" K) "ring") fd) (c_check_line : C8.Met P w K mg base 2 (aC "Board" K) "_check_line" (sp_Board_check_line K) []) (c_put_changed : C8.Cal P w K mg base 1 "put_changed" sp_put_changed []) :
    C8.Met P w K mg base 3 (aC "Board" K) "ring" (sp_Board_ring K) [] := by
  refine C8.met0 T.cl_Board T.m_Board_ring (fun_c8 F) (F.bindsN fun _ _ _ _ _ _ us hl => match us, hl with | [_, _], _ => rfl) sc_Board_ring (fun vs H Q E h => ?_) (fun cdv A outer s H vs Q E hr h => ?_)
  · obtain ⟨_, _, _, _, _, _, _, _, _, _, _, rfl, _⟩ := h
    rfl
  · have nd := sc_Board_ring.nd
    have hu := hu_of hr
    obtain ⟨bo, su, r, u, S, l, K0, f, M, m, c, rfl, B, hM, hl, sp, q⟩ := h
    refine ⟨_, (pss_cons (ps_expr (C8.pe_mt c_check_line hr (by decide) (pv 0) (pa_cons (pv 1) pa_nil)))
      (pss_cons (ps_if (pt_val (C8.pe_c c_put_changed hr (by decide) rfl (pa_cons (pe_fld (pv 0) rfl) (pa_cons (pv 1) (pa_cons pe_bl pa_nil))))) (pss_one (ps_ret pe_str)) pss_nil)
      (pss_cons (ps_daug hu (pe_fld (pv 0) rfl) (pv 1) pe_int in_add (fun _ _ _ => rfl))
      (pss_one (ps_ret pe_str))))), ?_⟩
    have B2 := BoardAt.up sp.ext B
    obtain ⟨dx, d, fl, mg, h1, h2⟩ := B2.ex
    obtain rfl := (MgAt.up sp.ext hM).uniq h1
    refine ⟨_, rfl, bo, dx, _, rfl, h1, rfl, _, rfl, bo, su, r, u, S, l, rfl, B2, hl, ?_⟩
    refine ⟨_, rfl, _, _, _, _, _, rfl, h1, T.cl_Board, T.t_Board_rung, rfl, _, rfl, r, l.name, true, S.order, f, rfl, sp.c0, B.ok.mem hl, B.ok.len, ?_⟩
    cases e : f l.name with
    | true =>
      refine ⟨_, rfl, iteF ?_⟩
      have sp1 := sp.put0 (o' := .dK (bd S.order (fset f l.name true)))
      obtain ⟨dx9, d9, fl9, mg9, h9, h99⟩ := (BoardAt.up sp1.ext B).ex
      have e9 := (MgAt.up sp1.ext hM).uniq h9
      subst e9
      have dp := DPut.k (k := .inr l.name) (v := .int (c l.name + 1)) sp1.c1 (sm (m := 12) (by simpa [md] using B.ok.len) (by decide))
      rw [putK_md (B.ok.mem hl)] at dp
      refine ⟨_, rfl, _, _, _, _, _, rfl, h9, T.cl_Board, T.t_Board_merges, rfl, _, rfl, _, .int (c l.name), rfl, md_at (B.ok.mem hl) ▸ DGet.k (k := .inr l.name) sp1.c1, ?_⟩
      refine ⟨_, _, rfl, rfl, _, dp, ?_⟩
      exact q _ _ _ (by rw [e]; rfl) sp1.swap.put0.swap
    | false => exact ⟨_, rfl, iteT (q _ _ c (by rw [e]; rfl) sp.put0)⟩
abbrev N_Board_begin : List Str := ["self", "line"]
theorem sc_Board_begin : FnScope N_Board_begin ["self", "line"] (C8.fnScope s_Board_begin) := C8.fnScope_by (by decide +kernel)
theorem ok_Board_begin {fd : FuncData} (T : Txt K mg) (F : FunD K "begin" "Board.begin" (C8.fnArgs s_Board_begin) (C8.fnBody s_Board_begin) (C8.fnScope s_Board_begin) [] [] (He.ma K (aC "Board" K) "begin") fd) (c_is_edge : C8.Met P w K mg base 4 (aC "Board" K) "_is_edge" (sp_Board_is_edge K) []) :
    C8.Met P w K mg base 5 (aC "Board" K) "begin" (sp_Board_begin K) [] := by
  refine C8.met0 T.cl_Board T.m_Board_begin (fun_c8 F) (F.bindsN fun _ _ _ _ _ _ us hl => match us, hl with | [_, _], _ => rfl) sc_Board_begin (fun vs H Q E h => ?_) (fun cdv A outer s H vs Q E hr h => ?_)
  · obtain ⟨_, _, _, _, _, _, _, _, _, _, rfl, _⟩ := h
    rfl
  · have nd := sc_Board_begin.nd
    have hu := hu_of hr
    obtain ⟨bo, su, r, u, S, l, K0, f, g, M, rfl, B, hl, sp, q⟩ := h
    refine ⟨_, (pss_cons (ps_if (pt_val (C8.pe_mt c_is_edge hr (by decide) (pv 0) (pa_cons (pv 1) pa_nil))) (pss_one (ps_dput hu (pe_fld (pv 0) rfl) (pv 1) pe_bl rfl)) pss_nil)
      (pss_one (ps_dput hu (pe_fld (pv 0) rfl) (pv 1) pe_bl rfl))), ?_⟩
    have B2 := BoardAt.up sp.ext B
    obtain ⟨dx, d, fl, mg, h1, h2⟩ := B2.ex
    have ln : ∀ f, (bd S.order f).length < sizeLine := fun f => sm (m := 12) (by simpa [bd] using B.ok.len) (by decide)
    refine ⟨_, rfl, bo, dx, _, rfl, h1, rfl, _, rfl, bo, su, r, u, S, l, rfl, B2, hl, true, rfl, iteT ?_⟩
    have dp := DPut.k (k := .inr l.name) (v := .bl false) sp.c0 (ln f)
    rw [putK_bd (B.ok.mem hl)] at dp
    refine ⟨_, rfl, _, _, _, _, _, rfl, h1, T.cl_Board, T.t_Board_rung, rfl, _, rfl, r, _, rfl, dp, ?_⟩
    have sp2 := sp.put0 (o' := .dK (bd S.order (fset f l.name false)))
    obtain ⟨dx, d, fl, mg, h1, h2⟩ := (BoardAt.up sp2.ext B).ex
    have dp2 := DPut.k (k := .inr l.name) (v := .bl true) sp2.c1 (ln g)
    rw [putK_bd (B.ok.mem hl)] at dp2
    exact ⟨_, rfl, _, _, _, _, _, rfl, h1, T.cl_Board, T.t_Board_under_way, rfl, _, rfl, u, _, rfl, dp2, q _ sp2.swap.put0.swap⟩
abbrev N_Board_end : List Str := ["self", "line"]
theorem sc_Board_end : FnScope N_Board_end ["self", "line"] (C8.fnScope s_Board_end) := C8.fnScope_by (by decide +kernel)
theorem ok_Board_end {fd : FuncData} (T : Txt K mg) (F : FunD K "end" "Board.end" (C8.fnArgs s_Board_end) (C8.fnBody s_Board_end) (C8.fnScope s_Board_end) [] [] (He.ma K (aC "Board" K) "end") fd) :
    C8.Met P w K mg base 1 (aC "Board" K) "end" (sp_Board_end K) [] := by
  refine C8.met0 T.cl_Board T.m_Board_end (fun_c8 F) (F.bindsN fun _ _ _ _ _ _ us hl => match us, hl with | [_, _], _ => rfl) sc_Board_end (fun vs H Q E h => ?_) (fun cdv A outer s H vs Q E hr h => ?_)
  · obtain ⟨_, _, _, _, _, _, _, _, _, rfl, _⟩ := h
    rfl
  · have nd := sc_Board_end.nd
    have hu := hu_of hr
    obtain ⟨bo, su, r, u, S, l, K0, g, M, rfl, B, hl, sp, q⟩ := h
    refine ⟨_, (pss_one (ps_dput hu (pe_fld (pv 0) rfl) (pv 1) pe_bl rfl)), ?_⟩
    have B2 := BoardAt.up sp.ext B
    obtain ⟨dx, d, fl, mg, h1, h2⟩ := B2.ex
    have ln : ∀ f, (bd S.order f).length < sizeLine := fun f => sm (m := 12) (by simpa [bd] using B.ok.len) (by decide)
    have dp := DPut.k (k := .inr l.name) (v := .bl false) sp.c0 (ln g)
    rw [putK_bd (B.ok.mem hl)] at dp
    exact ⟨_, rfl, _, _, _, _, _, rfl, h1, T.cl_Board, T.t_Board_under_way, rfl, _, rfl, u, _, rfl, dp, q _ sp.put0⟩
abbrev N_Board_waits : List Str := ["self", "line"]
theorem sc_Board_waits : FnScope N_Board_waits ["self", "line"] (C8.fnScope s_Board_waits) := C8.fnScope_by (by decide +kernel)
theorem ok_Board_waits {fd : FuncData} (T : Txt K mg) (F : FunD K "waits" "Board.waits" (C8.fnArgs s_Board_waits) (C8.fnBody s_Board_waits) (C8.fnScope s_Board_waits) [] [] (He.ma K (aC "Board" K) "waits") fd) (c_is_edge : C8.Met P w K mg base 4 (aC "Board" K) "_is_edge" (sp_Board_is_edge K) []) :
    C8.Met P w K mg base 5 (aC "Board" K) "waits" (sp_Board_waits K) [] := by
  refine C8.met0 T.cl_Board T.m_Board_waits (fun_c8 F) (F.bindsN fun _ _ _ _ _ _ us hl => match us, hl with | [_, _], _ => rfl) sc_Board_waits (fun vs H Q E h => ?_) (fun cdv A outer s H vs Q E hr h => ?_)
  · obtain ⟨_, _, _, _, _, _, _, rfl, _⟩ := h
    rfl
  · have nd := sc_Board_waits.nd
    have hu := hu_of hr
    obtain ⟨bo, su, r, u, S, l, f, rfl, B, hl, hr2, q⟩ := h
    refine ⟨_, (pss_one (ps_ret (pe_and (pe_dget hu (pe_fld (pv 0) rfl) (pv 1) (fun _ _ => rfl)) (pe_one (pe_or (C8.pe_mt c_is_edge hr (by decide) (pv 0) (pa_cons (pv 1) pa_nil)) (pe_one (pe_not (pe_dget hu (pe_fld (pv 0) rfl) (pv 1) (fun _ _ => rfl))))))))), ?_⟩
    obtain ⟨dx, d, fl, mg, h1, h2⟩ := B.ex
    refine ⟨_, rfl, _, _, _, _, _, rfl, h1, T.cl_Board, T.t_Board_rung, rfl, _, rfl, r, _, rfl, bd_at (B.ok.mem hl) ▸ DGet.k (k := .inr l.name) hr2, _, rfl, ?_⟩
    cases e : f l.name with
    | false =>
      rw [e] at q
      exact iteF q
    | true =>
      rw [e] at q
      exact iteT ⟨_, rfl, bo, dx, _, rfl, h1, rfl, _, rfl, bo, su, r, u, S, l, rfl, B, hl, true, rfl, iteT q⟩
end
end Cb

namespace Cb
open PySem PySem.Spec PyProof.Rows L2

theorem filter_snoc {α : Type} {l : List α} {i : Nat} {x : α} (f : α → Bool) (h : l[i]? = some x) : (l.take (i + 1)).filter f = (l.take i).filter f ++ (if f x = true then [x] else []) := by
  rw [take_snoc h, List.filter_append]
  congr 1
  by_cases e : f x = true <;> simp [e]
theorem Sep.up2 {K0 H : Hp} {L : List (Addr × HO)} {a1 a2 e : Addr × HO} (s : Sep K0 H (a1 :: a2 :: e :: L)) : Sep K0 H (e :: a1 :: a2 :: L) := s.perm (List.perm_middle (l₁ := [a1, a2])).symm
theorem Sep.rev3 {K0 H : Hp} {L : List (Addr × HO)} {g u r : Addr × HO} (s : Sep K0 H (g :: u :: r :: L)) : Sep K0 H (r :: u :: g :: L) := s.perm (((List.Perm.swap g u L).cons r).trans ((List.Perm.swap g r (u :: L)).trans ((List.Perm.swap u r L).cons g)))
theorem Sep.dk {K0 H : Hp} {L : List (Addr × HO)} {a : Addr} {kvs : List (Key × V)} {k : Key} (s : Sep K0 H ((a, .dK kvs) :: L)) : DGet H a (kV k) (valV kvs k) := DGet.k s.c0

section
variable {P : Program} {w : World} {K : PySem.W.Frag} {mg : Str → Option Value} {base : Heap}

abbrev N_Board_is_enabled : List Str := ["self", "line"]
theorem sc_Board_is_enabled : FnScope N_Board_is_enabled ["self", "line"] (C8.fnScope s_Board_is_enabled) := C8.fnScope_by (by decide +kernel)
theorem ok_Board_is_enabled {fd : FuncData} (T : Txt K mg) (F : FunD K "is_enabled" "Board.is_enabled" (C8.fnArgs s_Board_is_enabled) (C8.fnBody s_Board_is_enabled) (C8.fnScope s_Board_is_enabled) [] [] (He.ma K (aC "Board" K) "is_enabled") fd) :
    C8.Met P w K mg base 1 (aC "Board" K) "is_enabled" (sp_Board_is_enabled K) [] := by
  refine C8.met0 T.cl_Board T.m_Board_is_enabled (fun_c8 F) (F.bindsN fun _ _ _ _ _ _ us hl => match us, hl with | [_, _], _ => rfl) sc_Board_is_enabled (fun vs H Q E h => ?_) (fun cdv A outer s H vs Q E hr h => ?_)
  · obtain ⟨_, _, _, _, _, _, rfl, _⟩ := h
    rfl
  · have nd := sc_Board_is_enabled.nd
    have hu := hu_of hr
    obtain ⟨bo, su, r, u, S, l, rfl, B, hl, q⟩ := h
    refine ⟨_, (pss_one (ps_ret (pe_not (pe_dget hu (pe_fld (pv 0) rfl) (pv 1) (fun _ _ => rfl))))), ?_⟩
    obtain ⟨dx, d, fl, mg, h1, h2⟩ := B.ex
    have hd := DGet.k (k := .inr l.name) h2
    rw [bd_at (f := no) (B.ok.mem hl)] at hd
    exact ⟨_, rfl, _, _, _, _, _, rfl, h1, T.cl_Board, T.t_Board_disabled, rfl, _, rfl, d, _, rfl, hd, _, rfl, q⟩
abbrev N_Board_waiting_lines : List Str := ["self", "line"]
theorem sc_Board_waiting_lines : FnScope N_Board_waiting_lines ["self"] (C8.fnScope s_Board_waiting_lines) := C8.fnScope_by (by decide +kernel)
theorem ok_Board_waiting_lines {fd : FuncData} (T : Txt K mg) (F : FunD K "waiting_lines" "Board.waiting_lines" (C8.fnArgs s_Board_waiting_lines) (C8.fnBody s_Board_waiting_lines) (C8.fnScope s_Board_waiting_lines) [] [] (He.ma K (aC "Board" K) "waiting_lines") fd) (c_order : FnP P w K mg base 1 (prA "Setup" "order" K) (sp_Setup_order K)) (c_waits : C8.Met P w K mg base 5 (aC "Board" K) "waits" (sp_Board_waits K) []) :
    C8.Met P w K mg base 6 (aC "Board" K) "waiting_lines" (sp_Board_waiting_lines K) [] := by
  refine C8.met0 T.cl_Board T.m_Board_waiting_lines (fun_c8 F) (F.bindsN fun _ _ _ _ _ _ us hl => match us, hl with | [_], _ => rfl) sc_Board_waiting_lines (fun vs H Q E h => ?_) (fun cdv A outer s H vs Q E hr h => ?_)
  · obtain ⟨_, _, _, _, _, _, rfl, _⟩ := h
    rfl
  · have nd := sc_Board_waiting_lines.nd
    have hu := hu_of hr
    obtain ⟨bo, su, r, u, S, f, rfl, B, hr2, q⟩ := h
    obtain ⟨p, hpo⟩ := T.p_Setup_order
    refine ⟨_, (pss_one (ps_ret (pe_lc (own := [("line", 1)]) rfl nd (pi_tup (C_prop hpo T.cl_Setup c_order hr (by decide) (pe_fld (pv 0) rfl))) (blkOk_by (own := [("line", 1)]) (N := N_Board_waiting_lines) (sc := (C8.fnScope s_Board_waiting_lines)) (by decide +kernel)) (fun _ _ _ _ _ => (pg_name (i := 1) nd rfl (Or.inl rfl))) (fun _ _ _ _ _ => (pts_one (pt_val (C8.pe_mt c_waits hr (by decide) (pv 0) (pa_cons (pv 1) pa_nil))))) (fun _ _ _ _ _ => (pv 1))))), ?_⟩
    obtain ⟨dx, d, fl, mg, h1, h2⟩ := B.ex
    obtain ⟨dx2, _, _, _, _, _, h3, _⟩ := B.su.ex
    refine ⟨_, rfl, _, _, _, _, _, rfl, h1, T.cl_Board, T.t_Board_setup, rfl, su, dx2, _, rfl, h3, su, S, H, rfl, B.su, Same.refl H, fun oa hoa => ?_⟩
    refine ⟨_, rfl, ⟨_, t_of hoa⟩, fun D hD => ?_⟩
    refine lc_it (walk_tup (xs := S.order.map V.str)) (fun i H' => Sep H H' [(D, .lst (((S.order.take i).filter f).map V.str))]) (Sep.nil.own hD) ?_ ?_ ?_
    · rintro i H' _ sp
      exact t_of (sp.ext _ _ hoa)
    · rintro i v H1 H2 hi sp ⟨rfl, e2⟩
      rw [List.getElem?_map] at e2
      obtain ⟨n, hn, rfl⟩ := Option.map_eq_some_iff.mp e2
      obtain ⟨l, hl, rfl⟩ := B.ok.line (List.mem_of_getElem? hn)
      refine ⟨rfl, ⟨_, rfl, bo, dx, _, rfl, sp.ext _ _ h1, rfl, _, rfl, bo, su, r, u, S, l, f, rfl, BoardAt.up sp.ext B, hl, sp.ext _ _ hr2, _, rfl, ?_⟩⟩
      rw [filter_snoc f hn]
      cases e : f l.name with
      | true =>
        refine iteT ⟨_, rfl, _, sp.c0, ?_, ?_⟩
        · have h1 := List.length_filter_le f (S.order.take i)
          have h2 := B.ok.len
          exact sm (m := 12) (by simp at h1 ⊢; omega) (by decide)
        · rw [if_pos rfl, List.map_append]
          exact sp.put0
      | false =>
        refine iteF ?_
        rw [if_neg (by simp), List.append_nil]
        exact sp
    · rintro H1 sp
      rw [List.take_of_length_le (by simp)] at sp
      exact q D H1 sp.ext hD sp.c0
abbrev N_Board_init : List Str := ["self", "setup", "name", "_"]
theorem sc_Board_init : FnScope N_Board_init ["self", "setup"] (C8.fnScope s_Board_init) := C8.fnScope_by (by decide +kernel)
theorem ok_Board_init {fd : FuncData} (T : Txt K mg) (F : FunD K "__init__" "Board.__init__" (C8.fnArgs s_Board_init) (C8.fnBody s_Board_init) (C8.fnScope s_Board_init) [] [] (He.ma K (aC "Board" K) "__init__") fd) (c_order : FnP P w K mg base 1 (prA "Setup" "order" K) (sp_Setup_order K)) :
    C8.Mak P w K mg base 3 "Board" (aC "Board" K) (sp_Board_init K) [] := by
  refine C8.mak0 (ds := []) T.mk_Board T.g_Board (fun_c8 F) (F.bindsN fun _ _ _ _ _ _ us hl => match us, hl with | [_, _], _ => rfl) .nil sc_Board_init (fun vs H Q E h => ?_) (fun cdv A outer s H vs Q E hr h => ?_)
  · obtain ⟨_, _, _, _, _, _, rfl, _⟩ := h
    rfl
  · have nd := sc_Board_init.nd
    have hu := hu_of hr
    obtain ⟨x, dx, su, S, K0, M, rfl, sp, hS, ok, ed, q⟩ := h
    obtain ⟨p, hpo⟩ := T.p_Setup_order
    refine ⟨_, (pss_cons (ps_fld (pv 0) (pv 1) rfl)
      (pss_cons (ps_fld (pv 0) (pe_dc (own := [("name", 2)]) rfl nd (pi_tup (C_prop hpo T.cl_Setup c_order hr (by decide) (pv 1))) (blkOk_by (own := [("name", 2)]) (N := N_Board_init) (sc := (C8.fnScope s_Board_init)) (by decide +kernel)) (fun _ _ _ _ _ => (pg_name (i := 2) nd rfl (Or.inl rfl))) (fun _ _ _ _ _ => pts_nil) (fun _ _ _ _ _ => (pv 2)) (fun _ _ _ _ _ => pe_bl)) rfl)
      (pss_cons (ps_fld (pv 0) (pe_dc (own := [("name", 2)]) rfl nd (pi_tup (C_prop hpo T.cl_Setup c_order hr (by decide) (pv 1))) (blkOk_by (own := [("name", 2)]) (N := N_Board_init) (sc := (C8.fnScope s_Board_init)) (by decide +kernel)) (fun _ _ _ _ _ => (pg_name (i := 2) nd rfl (Or.inl rfl))) (fun _ _ _ _ _ => pts_nil) (fun _ _ _ _ _ => (pv 2)) (fun _ _ _ _ _ => pe_bl)) rfl)
      (pss_cons (ps_fld (pv 0) (pe_dc (own := [("name", 2)]) rfl nd (pi_tup (C_prop hpo T.cl_Setup c_order hr (by decide) (pv 1))) (blkOk_by (own := [("name", 2)]) (N := N_Board_init) (sc := (C8.fnScope s_Board_init)) (by decide +kernel)) (fun _ _ _ _ _ => (pg_name (i := 2) nd rfl (Or.inl rfl))) (fun _ _ _ _ _ => pts_nil) (fun _ _ _ _ _ => (pv 2)) (fun _ _ _ _ _ => pe_bl)) rfl)
      (pss_cons (ps_fld (pv 0) (pe_lc (own := [("_", 3)]) rfl nd (pi_range1 (by rfl) T.n_range (pa_cons (pe_op op_add (ClX.pe_cval (pe_glob (v := .ref (aC "Setup" K)) rfl T.g_Setup rfl)) pe_int) pa_nil)) (blkOk_by (own := [("_", 3)]) (N := N_Board_init) (sc := (C8.fnScope s_Board_init)) (by decide +kernel)) (fun _ _ _ _ _ => (pg_name (i := 3) nd rfl (Or.inl rfl))) (fun _ _ _ _ _ => pts_nil) (fun _ _ _ _ _ => pe_bl)) rfl)
      (pss_one (ps_fld (pv 0) (pe_dc (own := [("name", 2)]) rfl nd (pi_tup (C_prop hpo T.cl_Setup c_order hr (by decide) (pv 1))) (blkOk_by (own := [("name", 2)]) (N := N_Board_init) (sc := (C8.fnScope s_Board_init)) (by decide +kernel)) (fun _ _ _ _ _ => (pg_name (i := 2) nd rfl (Or.inl rfl))) (fun _ _ _ _ _ => pts_nil) (fun _ _ _ _ _ => (pv 2)) (fun _ _ _ _ _ => pe_int)) rfl))))))), ?_⟩
    obtain ⟨dx2, _, _, _, _, _, h3, _⟩ := hS.ex
    obtain ⟨u3, c3⟩ := T.c_Setup_MAX_FLAG
    refine ⟨_, rfl, _, rfl, _, _, _, _, rfl, sp.c0, T.cl_Board, T.t_Board_setup, (by simp), ?_⟩
    have t0 := sp.put0 (o' := .ins (aC "Board" K) dx [("_setup", .ref su)])
    refine ⟨_, rfl, su, _, _, rfl, t0.ext _ _ h3, su, S, K0, rfl, hS, t0.ext, fun oa hoa => ?_⟩
    refine ⟨_, rfl, ⟨_, t_of (t0.ext _ _ hoa)⟩, fun r hD => ?_⟩
    refine dc_it (walk_tup (xs := S.order.map V.str)) (fun i H' => Sep K0 H' ((r, .dK (bd (S.order.take i) no)) :: (x, .ins (aC "Board" K) dx [("_setup", .ref su)]) :: M)) (t0.own hD) ?_ ?_ ?_
    · rintro i H' _ sp
      exact t_of (sp.ext _ _ hoa)
    · rintro i v H1 H2 hi sp ⟨rfl, e2⟩
      rw [List.getElem?_map] at e2
      obtain ⟨n, hn, rfl⟩ := Option.map_eq_some_iff.mp e2
      refine ⟨rfl, ⟨_, rfl, _, .inr n, rfl, sp.c0, ?_, ?_⟩⟩
      · exact sm (m := 12) (by have := ok.len; simp [bd]; omega) (by decide)
      · have z := sp.put0 (o' := .dK (putK (bd (S.order.take i) no) (.inr n) (.bl (no n))))
        rw [bd_snoc ok.nd hn] at z
        rw [show V.bl false = V.bl (no n) from rfl, bd_snoc ok.nd hn]
        exact z
    rintro H0 a0
    rw [List.take_of_length_le (by simp)] at a0
    refine ⟨_, rfl, _, _, _, _, rfl, a0.c1, T.cl_Board, T.t_Board_rung, (by simp), ?_⟩
    have t1 := a0.swap.put0 (o' := ((x, .ins (aC "Board" K) dx [("_setup", .ref su), ("_rung", .ref r)]) : Addr × HO).2)
    refine ⟨_, rfl, su, _, _, rfl, t1.ext _ _ h3, su, S, K0, rfl, hS, t1.ext, fun oa hoa => ?_⟩
    refine ⟨_, rfl, ⟨_, t_of (t1.ext _ _ hoa)⟩, fun d hD => ?_⟩
    refine dc_it (walk_tup (xs := S.order.map V.str)) (fun i H' => Sep K0 H' ((d, .dK (bd (S.order.take i) no)) :: (x, .ins (aC "Board" K) dx [("_setup", .ref su), ("_rung", .ref r)]) :: (r, .dK (bd S.order no)) :: M)) (t1.own hD) ?_ ?_ ?_
    · rintro i H' _ sp
      exact t_of (sp.ext _ _ hoa)
    · rintro i v H1 H2 hi sp ⟨rfl, e2⟩
      rw [List.getElem?_map] at e2
      obtain ⟨n, hn, rfl⟩ := Option.map_eq_some_iff.mp e2
      refine ⟨rfl, ⟨_, rfl, _, .inr n, rfl, sp.c0, ?_, ?_⟩⟩
      · exact sm (m := 12) (by have := ok.len; simp [bd]; omega) (by decide)
      · have z := sp.put0 (o' := .dK (putK (bd (S.order.take i) no) (.inr n) (.bl (no n))))
        rw [bd_snoc ok.nd hn] at z
        rw [show V.bl false = V.bl (no n) from rfl, bd_snoc ok.nd hn]
        exact z
    rintro H1 a1
    rw [List.take_of_length_le (by simp)] at a1
    refine ⟨_, rfl, _, _, _, _, rfl, a1.c1, T.cl_Board, T.t_Board_disabled, (by simp), ?_⟩
    have t2 := a1.swap.put0 (o' := ((x, .ins (aC "Board" K) dx [("_setup", .ref su), ("_rung", .ref r), ("_disabled", .ref d)]) : Addr × HO).2)
    refine ⟨_, rfl, su, _, _, rfl, t2.ext _ _ h3, su, S, K0, rfl, hS, t2.ext, fun oa hoa => ?_⟩
    refine ⟨_, rfl, ⟨_, t_of (t2.ext _ _ hoa)⟩, fun u hD => ?_⟩
    refine dc_it (walk_tup (xs := S.order.map V.str)) (fun i H' => Sep K0 H' ((u, .dK (bd (S.order.take i) no)) :: (x, .ins (aC "Board" K) dx [("_setup", .ref su), ("_rung", .ref r), ("_disabled", .ref d)]) :: (d, .dK (bd S.order no)) :: (r, .dK (bd S.order no)) :: M)) (t2.own hD) ?_ ?_ ?_
    · rintro i H' _ sp
      exact t_of (sp.ext _ _ hoa)
    · rintro i v H1 H2 hi sp ⟨rfl, e2⟩
      rw [List.getElem?_map] at e2
      obtain ⟨n, hn, rfl⟩ := Option.map_eq_some_iff.mp e2
      refine ⟨rfl, ⟨_, rfl, _, .inr n, rfl, sp.c0, ?_, ?_⟩⟩
      · exact sm (m := 12) (by have := ok.len; simp [bd]; omega) (by decide)
      · have z := sp.put0 (o' := .dK (putK (bd (S.order.take i) no) (.inr n) (.bl (no n))))
        rw [bd_snoc ok.nd hn] at z
        rw [show V.bl false = V.bl (no n) from rfl, bd_snoc ok.nd hn]
        exact z
    rintro H2 a2
    rw [List.take_of_length_le (by simp)] at a2
    refine ⟨_, rfl, _, _, _, _, rfl, a2.c1, T.cl_Board, T.t_Board_under_way, (by simp), ?_⟩
    have t3 := a2.swap.put0 (o' := ((x, .ins (aC "Board" K) dx [("_setup", .ref su), ("_rung", .ref r), ("_disabled", .ref d), ("_under_way", .ref u)]) : Addr × HO).2)
    refine ⟨_, _, _, _, rfl, T.r_Setup, c3, _, _, rfl, rfl, _, rfl, by decide, by decide, fun F hF => ?_⟩
    refine lc_it (walk_range (lo := 0) (n := 8)) (fun i H' => Sep K0 H' ((F, .lst (List.replicate i (.bl false))) :: (x, .ins (aC "Board" K) dx [("_setup", .ref su), ("_rung", .ref r), ("_disabled", .ref d), ("_under_way", .ref u)]) :: (u, .dK (bd S.order no)) :: (d, .dK (bd S.order no)) :: (r, .dK (bd S.order no)) :: M)) (t3.own hF) ?_ ?_ ?_
    · exact fun _ _ _ _ => trivial
    · rintro i v H3 H4 hi sp ⟨rfl, e2⟩
      refine ⟨rfl, ⟨_, sp.c0, ?_, ?_⟩⟩
      · rw [List.length_replicate]
        exact sm (m := 12) (by omega) (by decide)
      · rw [List.replicate_succ']
        exact sp.put0
    rintro H5 a5
    refine ⟨_, rfl, _, _, _, _, rfl, a5.c1, T.cl_Board, T.t_Board_flags, (by simp), ?_⟩
    have t5 := a5.swap.put0 (o' := ((x, .ins (aC "Board" K) dx [("_setup", .ref su), ("_rung", .ref r), ("_disabled", .ref d), ("_under_way", .ref u), ("_flags", .ref F)]) : Addr × HO).2)
    refine ⟨_, rfl, su, _, _, rfl, t5.ext _ _ h3, su, S, K0, rfl, hS, t5.ext, fun oa hoa => ?_⟩
    refine ⟨_, rfl, ⟨_, t_of (t5.ext _ _ hoa)⟩, fun G hD => ?_⟩
    refine dc_it (walk_tup (xs := S.order.map V.str)) (fun i H' => Sep K0 H' ((G, .dK (md (S.order.take i) no0)) :: (x, .ins (aC "Board" K) dx [("_setup", .ref su), ("_rung", .ref r), ("_disabled", .ref d), ("_under_way", .ref u), ("_flags", .ref F)]) :: (F, .lst (List.replicate 8 (.bl false))) :: (u, .dK (bd S.order no)) :: (d, .dK (bd S.order no)) :: (r, .dK (bd S.order no)) :: M)) (t5.own hD) ?_ ?_ ?_
    · rintro i H' _ sp
      exact t_of (sp.ext _ _ hoa)
    · rintro i v H1 H2 hi sp ⟨rfl, e2⟩
      rw [List.getElem?_map] at e2
      obtain ⟨n, hn, rfl⟩ := Option.map_eq_some_iff.mp e2
      refine ⟨rfl, ⟨_, rfl, _, .inr n, rfl, sp.c0, ?_, ?_⟩⟩
      · exact sm (m := 12) (by have := ok.len; simp [md]; omega) (by decide)
      · have z := sp.put0 (o' := .dK (putK (md (S.order.take i) no0) (.inr n) (.int (no0 n))))
        rw [md_snoc ok.nd hn] at z
        rw [show V.int 0 = V.int (no0 n) from rfl, md_snoc ok.nd hn]
        exact z
    rintro H6 a6
    rw [List.take_of_length_le (by simp)] at a6
    refine ⟨_, rfl, _, _, _, _, rfl, a6.c1, T.cl_Board, T.t_Board_merges, (by simp), ?_⟩
    have t6 := a6.swap.put0 (o' := ((x, .ins (aC "Board" K) dx [("_setup", .ref su), ("_rung", .ref r), ("_disabled", .ref d), ("_under_way", .ref u), ("_flags", .ref F), ("_merges", .ref G)]) : Addr × HO).2)
    have u1 := t6.freeze
    have n1 := t6.new0
    have x1 : upd K0 x ((x, .ins (aC "Board" K) dx [("_setup", .ref su), ("_rung", .ref r), ("_disabled", .ref d), ("_under_way", .ref u), ("_flags", .ref F), ("_merges", .ref G)]) : Addr × HO).2 x = some ((x, .ins (aC "Board" K) dx [("_setup", .ref su), ("_rung", .ref r), ("_disabled", .ref d), ("_under_way", .ref u), ("_flags", .ref F), ("_merges", .ref G)]) : Addr × HO).2 := upd_same
    have v1 := u1.swap.freeze
    have m1 := u1.swap.new0
    have y1 := m1 _ _ x1
    have w1 := v1.up2.freeze
    have k1 := v1.up2.new0
    have g := Same.tr n1 (Same.tr m1 k1)
    exact q _ _ r u G g ⟨⟨dx, d, F, G, k1 _ _ y1, upd_same⟩, SetupAt.up g hS, ok, ed⟩ ⟨dx, su, r, d, u, F, k1 _ _ y1⟩ w1.rev3
abbrev N_Board_ready_lines : List Str := ["self", "enabled", "line"]
theorem sc_Board_ready_lines : FnScope N_Board_ready_lines ["self"] (C8.fnScope s_Board_ready_lines) := C8.fnScope_by (by decide +kernel)
theorem ok_Board_ready_lines {fd : FuncData} (T : Txt K mg) (F : FunD K "ready_lines" "Board.ready_lines" (C8.fnArgs s_Board_ready_lines) (C8.fnBody s_Board_ready_lines) (C8.fnScope s_Board_ready_lines) [] [] (He.ma K (aC "Board" K) "ready_lines") fd) (c_waiting_lines : C8.Met P w K mg base 6 (aC "Board" K) "waiting_lines" (sp_Board_waiting_lines K) []) (c_is_enabled : C8.Met P w K mg base 1 (aC "Board" K) "is_enabled" (sp_Board_is_enabled K) []) :
    C8.Met P w K mg base 7 (aC "Board" K) "ready_lines" (sp_Board_ready_lines K) [] := by
  refine C8.met0 T.cl_Board T.m_Board_ready_lines (fun_c8 F) (F.bindsN fun _ _ _ _ _ _ us hl => match us, hl with | [_], _ => rfl) sc_Board_ready_lines (fun vs H Q E h => ?_) (fun cdv A outer s H vs Q E hr h => ?_)
  · obtain ⟨_, _, _, _, _, _, _, rfl, _⟩ := h
    rfl
  · have nd := sc_Board_ready_lines.nd
    have hu := hu_of hr
    obtain ⟨bo, su, r, u, S, f, g, rfl, B, hr2, hu2, q⟩ := h
    refine ⟨_, (pss_cons (ps_setLc (i := 1) (own := [("line", 2)]) rfl nd rfl rfl (sw_true rfl rfl rfl (by decide +kernel)) (pi_list (C8.pe_mt0 c_waiting_lines hr (by decide) (pv 0))) (blkOk_by (own := [("line", 2)]) (N := N_Board_ready_lines) (sc := (C8.fnScope s_Board_ready_lines)) (by decide +kernel)) (fun _ _ _ _ _ => (pg_name (i := 2) nd rfl (Or.inl rfl))) (fun _ _ _ _ _ => (pts_one (pt_val (C8.pe_mt c_is_enabled hr (by decide) (pv 0) (pa_cons (pv 2) pa_nil))))) (fun _ _ _ _ _ => (pv 2)))
      (pss_one (ps_ret (pe_lc (own := [("line", 2)]) rfl nd (pi_list (pv 1)) (blkOk_by (own := [("line", 2)]) (N := N_Board_ready_lines) (sc := (C8.fnScope s_Board_ready_lines)) (by decide +kernel)) (fun _ _ _ _ _ => (pg_name (i := 2) nd rfl (Or.inl rfl))) (fun _ _ _ _ _ => (pts_one (pt_not (pt_val (pe_dget hu (pe_fld (pv 0) rfl : PE _ _ (tFld K _ _)) (pv 2) (fun _ _ => rfl)))))) (fun _ _ _ _ _ => (pv 2)))))), ?_⟩
    obtain ⟨dx, d, fl, mg, h1, h2⟩ := B.ex
    refine ⟨_, rfl, bo, dx, _, rfl, h1, rfl, bo, su, r, u, S, f, rfl, B, hr2, fun p H1 g1 hp hp1 => ?_⟩
    revert hp1 q
    generalize eW : S.order.filter f = WL
    intro q hp1
    have lenW : WL.length ≤ 12 := by
      rw [← eW]
      exact Nat.le_trans (List.length_filter_le _ _) B.ok.len
    have s1 : Sep H H1 [(p, .lst (WL.map V.str))] := Sep.nil.own' g1 hp hp1
    refine ⟨_, rfl, ⟨_, l_of hp1⟩, fun D hD => ?_⟩
    refine lc_it (walk_list (xs := WL.map V.str)) (fun i H' => Sep H H' ((D, .lst (((WL.take i)).map V.str)) :: [(p, .lst (WL.map V.str))])) (s1.own hD) ?_ ?_ ?_
    · rintro i H' _ sp
      exact l_of sp.c1
    · rintro i v H3 H4 hi sp ⟨rfl, e2⟩
      rw [List.getElem?_map] at e2
      obtain ⟨n, hn, rfl⟩ := Option.map_eq_some_iff.mp e2
      have hno : n ∈ S.order := (List.mem_filter.mp (eW ▸ List.mem_of_getElem? hn)).1
      obtain ⟨l, hl, rfl⟩ := B.ok.line hno
      refine ⟨rfl, ⟨_, rfl, bo, dx, _, rfl, sp.ext _ _ h1, rfl, _, rfl, bo, su, r, u, S, l, rfl, BoardAt.up sp.ext B, hl, _, rfl, ?_⟩⟩
      refine iteT ⟨_, rfl, _, sp.c0, ?_, ?_⟩
      · have h2 := lenW
        exact sm (m := 12) (by rw [List.length_map, List.length_take]; omega) (by decide)
      · rw [take_snoc hn, List.map_append]
        exact sp.put0
    rintro H2 s2
    rw [List.take_of_length_le (by simp)] at s2
    refine ⟨_, rfl, _, rfl, ⟨_, l_of s2.c0⟩, fun D2 hD2 => ?_⟩
    refine lc_it (walk_list (xs := WL.map V.str)) (fun i H' => Sep H H' ((D2, .lst (((WL.take i).filter (fun n => !g n)).map V.str)) :: [(D, .lst (WL.map V.str)), (p, .lst (WL.map V.str))])) (s2.own hD2) ?_ ?_ ?_
    · rintro i H' _ sp
      exact l_of sp.c1
    · rintro i v H3 H4 hi sp ⟨rfl, e2⟩
      rw [List.getElem?_map] at e2
      obtain ⟨n, hn, rfl⟩ := Option.map_eq_some_iff.mp e2
      have hno : n ∈ S.order := (List.mem_filter.mp (eW ▸ List.mem_of_getElem? hn)).1
      refine ⟨rfl, ⟨_, rfl, _, _, _, _, _, rfl, sp.ext _ _ h1, T.cl_Board, T.t_Board_under_way, rfl, _, rfl, u, _, rfl, bd_at hno ▸ DGet.k (k := .inr n) (sp.ext _ _ hu2), _, rfl, ?_⟩⟩
      rw [filter_snoc (fun n => !g n) hn]
      cases e : g n with
      | false =>
        refine iteT ⟨_, rfl, _, sp.c0, ?_, ?_⟩
        · have h1 := List.length_filter_le (fun n => !g n) (WL.take i)
          have h2 := lenW
          exact sm (m := 12) (by simp at h1 ⊢; omega) (by decide)
        · rw [if_pos (by simp [e]), List.map_append]
          exact sp.put0
      | true =>
        refine iteF ?_
        rw [if_neg (by simp [e]), List.append_nil]
        exact sp
    rintro H3 s3
    rw [List.take_of_length_le (by simp)] at s3
    have hD0 : H D2 = none := Same.free s2.ext hD2
    exact q D2 H3 s3.ext hD0 s3.c0
end
end Cb

namespace Cb
open PySem PySem.Spec PyProof.Rows L2

def pd (r : Str × Int) : PyData := .tuple [.str r.1, .int r.2]
theorem pd_eq {a b : Str × Int} : PyData.eqv (pd a) (pd b) = decide (a = b) := by
  obtain ⟨a, i⟩ := a
  obtain ⟨b, j⟩ := b
  rw [Bool.eq_iff_iff]
  simp [pd, PyData.eqv, PyData.eqvAll]
theorem sok {x : Str} (h : nameOk x) : PyData.strOk x = true := by
  have z := h.2
  unfold letters at z
  have z1 := (He.ba z).1
  unfold Txt.isascii at z1
  unfold PyData.strOk
  rw [Array.all_eq_true] at z1 ⊢
  intro i hi
  have := z1 i hi
  simp at this ⊢
  omega
theorem pd_lay : ∀ {l : List (Str × Int)}, (∀ r ∈ l, nameOk r.1) → PyData.canLayAll0 (l.map pd) = true
  | [], _ => by simp [PyData.canLayAll0]
  | a :: l, h => by simp [PyData.canLayAll0, pd_lay fun r m => h r (List.mem_cons_of_mem _ m), pd, PyData.canLay0, sok (h a List.mem_cons_self)]
theorem pd_dep : ∀ l : List (Str × Int), PyData.depthAll (l.map pd) ≤ 2
  | [] => by simp [PyData.depthAll]
  | a :: l => by
    have := pd_dep l
    simp [PyData.depthAll, pd, PyData.depth]
    omega
theorem pd_sh {l : List (Str × Int)} (h : ∀ r ∈ l, nameOk r.1) : SeqAt.shaped (.list (l.map pd)) = true := by
  have := pd_dep l
  unfold SeqAt.shaped
  simp [PyData.canLay0, pd_lay h, PyData.depth]
  omega
theorem pd_sh1 {a : Str × Int} (h : nameOk a.1) : SeqAt.shaped (pd a) = true := by
  unfold SeqAt.shaped
  simp [pd, PyData.canLay0, PyData.canLayAll0, PyData.depth, PyData.depthAll, sok h]
def RowAt (K : PySem.W.Frag) (H : Hp) (v : V) (r : Str × Int) : Prop := ∃ t, v = .ref t ∧ SqT K H t [.str r.1, .int r.2]
theorem RowAt.up {K : PySem.W.Frag} {H H' : Hp} {v : V} {r : Str × Int} (e : Same H H') (h : RowAt K H v r) : RowAt K H' v r := h.elim fun a h => ⟨a, h.1, Same.tup e h.2⟩
theorem rows_dp {K : PySem.W.Frag} {H : Hp} : ∀ {rv : List V} {rows : List (Str × Int)}, Paired (RowAt K H) rv rows → DpAll K H rv (rows.map pd)
  | _, _, .nil => .nil
  | _, _, .cons ⟨t, e, h⟩ p => by
    subst e
    exact .cons (.tup h (.cons (.str _) (.cons (.int _) .nil))) (rows_dp p)
def wd (ws : List WorkD) (f : WorkD → Int) : List (Key × V) := ws.map fun w => (.inr w.name, .int (f w))
theorem wd_at {f : WorkD → Int} {l : WorkD} : ∀ {ws : List WorkD}, (ws.map (·.name)).Nodup → l ∈ ws → valV (wd ws f) (.inr l.name) = some (.int (f l))
  | m :: ws, nd, h => by
    have nd2 := List.nodup_cons.mp nd
    rcases List.mem_cons.mp h with e | h
    · subst e
      simp [wd, valV]
    · have ne : m.name ≠ l.name := fun q => nd2.1 (by show m.name ∈ _; rw [q]; exact List.mem_map_of_mem h)
      have z := wd_at (f := f) nd2.2 h
      unfold wd valV at z ⊢
      rw [List.map_cons, List.find?_cons_of_neg (by simp [ne])]
      exact z
theorem wd_snoc {f : WorkD → Int} {ws : List WorkD} (nd : (ws.map (·.name)).Nodup) {i : Nat} {l : WorkD} (h : ws[i]? = some l) : putK (wd (ws.take i) f) (.inr l.name) (.int (f l)) = wd (ws.take (i + 1)) f := by
  rw [take_snoc h, putK_new]
  · simp [wd]
  · intro e m q
    obtain ⟨k, hk, rfl⟩ := List.mem_map.mp m
    injection q with q
    have := nodup_take nd (i := i) (x := l.name) (by simp [h])
    rw [← List.map_take] at this
    exact this (q ▸ List.mem_map_of_mem hk)
theorem papp {α β : Type} {F : α → β → Prop} : ∀ {l₁ : List α} {l₂ : List β} {m₁ : List α} {m₂ : List β}, Paired F l₁ l₂ → Paired F m₁ m₂ → Paired F (l₁ ++ m₁) (l₂ ++ m₂)
  | _, _, _, _, .nil, q => q
  | _, _, _, _, .cons f p, q => .cons f (papp p q)
theorem ptake {α β : Type} {F : α → β → Prop} : ∀ {l₁ : List α} {l₂ : List β}, Paired F l₁ l₂ → ∀ n, Paired F (l₁.take n) (l₂.take n)
  | _, _, .nil, _ => by simpa using Paired.nil
  | _, _, .cons _ _, 0 => .nil
  | _, _, .cons f p, n + 1 => .cons f (ptake p n)
theorem pdrop {α β : Type} {F : α → β → Prop} : ∀ {l₁ : List α} {l₂ : List β}, Paired F l₁ l₂ → ∀ n, Paired F (l₁.drop n) (l₂.drop n)
  | _, _, .nil, _ => by simpa using Paired.nil
  | _, _, .cons f p, 0 => .cons f p
  | _, _, .cons f p, n + 1 => pdrop p n
theorem any_pd (rows : List (Str × Int)) (a : Str × Int) : ((rows.map pd).any fun z => PyData.eqv z (pd a)) = decide (a ∈ rows) := by
  rw [Bool.eq_iff_iff, List.any_map]
  simp [pd_eq]
theorem hu65_of {k : Nat} {A : Around} (h : Room k A) : A.units + 65 < cLine := by
  have := h.un
  omega
theorem big63 {n : Nat} (h : n ≤ 4000) : (n : Int) < 2 ^ 63 := by
  have : (2 : Int) ^ 63 = 9223372036854775808 := by decide
  omega
structure JobsAt (K : PySem.W.Frag) (H : Hp) (jo : Addr) (ws : List WorkD) (ro : Addr) : Prop where
  ex : ∃ dx rk ln, H jo = some (.ins (aC "WorkQueue" K) dx [("_ranks", .ref rk), ("_lengths", .ref ln), ("_rows", .ref ro)]) ∧ H rk = some (.dK (wd ws (·.rank))) ∧ H ln = some (.dK (wd ws (·.ticks)))
  ok : WsOk ws
theorem JobsAt.up {K : PySem.W.Frag} {H H' : Hp} {jo ro : Addr} {ws : List WorkD} (e : Same H H') (h : JobsAt K H jo ws ro) : JobsAt K H' jo ws ro := by
  obtain ⟨dx, rk, ln, h1, h2, h3⟩ := h.ex
  exact ⟨⟨dx, rk, ln, e _ _ h1, e _ _ h2, e _ _ h3⟩, h.ok⟩
def RowsOk (ws : List WorkD) (rows : List (Str × Int)) : Prop := ∀ r ∈ rows, ∃ w ∈ ws, w.name = r.1 ∧ 0 ≤ r.2 ∧ r.2 < w.ticks
def sp_WorkQueue_init (K : PySem.W.Frag) : Sp := fun vs H Q _ => ∃ (x dx wa : Addr) (ws : List WorkD) (K0 : Hp) (M : List (Addr × HO)), vs = [.ref x, .ref wa] ∧ Sep K0 H ((x, .ins (aC "WorkQueue" K) dx []) :: M) ∧ WorksAt K K0 wa ws ∧ WsOk ws ∧
  ∀ K1 H' ro, Same K0 K1 → JobsAt K K1 x ws ro → Sep K1 H' ((ro, .lst []) :: M) → Q .non H'
def sp_WorkQueue_rows (K : PySem.W.Frag) : Sp := fun vs H Q _ => ∃ (jo ro : Addr) (ws : List WorkD) (rv : List V), vs = [.ref jo] ∧ JobsAt K H jo ws ro ∧ H ro = some (.lst rv) ∧ rv.length ≤ 4000 ∧
  ∀ p H', Same H H' → H p = none → H' p = some (.lst rv) → Q (.ref p) H'
def sp_WorkQueue_is_empty (K : PySem.W.Frag) : Sp := fun vs H Q _ => ∃ (jo ro : Addr) (ws : List WorkD) (rv : List V), vs = [.ref jo] ∧ JobsAt K H jo ws ro ∧ H ro = some (.lst rv) ∧ Q (.bl rv.isEmpty) H
def putR (k : Nat) (rows : List (Str × Int)) (n : Str) : List (Str × Int) := if (n, 0) ∈ rows then rows else rows.take k ++ [(n, 0)] ++ rows.drop k
def sp_WorkQueue_put (K : PySem.W.Frag) : Sp := fun vs H Q _ => ∃ (jo ro : Addr) (ws : List WorkD) (rv : List V) (rows : List (Str × Int)) (l : WorkD) (K0 : Hp) (M : List (Addr × HO)), vs = [.ref jo, .str l.name, .int 0] ∧ JobsAt K K0 jo ws ro ∧ RowsOk ws rows ∧ l ∈ ws ∧ Paired (RowAt K K0) rv rows ∧ rows.length ≤ 4000 ∧ Sep K0 H ((ro, .lst rv) :: M) ∧
  ∀ K1 H' rv' k, Same K0 K1 → Paired (RowAt K K1) rv' (putR k rows l.name) → Sep K1 H' ((ro, .lst rv') :: M) → Q .non H'
def sp_WorkQueue_spend (K : PySem.W.Frag) : Sp := fun vs H Q _ => ∃ (jo ro : Addr) (ws : List WorkD) (rv : List V) (n : Str) (t : Int) (rows : List (Str × Int)) (K0 : Hp) (M : List (Addr × HO)), vs = [.ref jo] ∧ JobsAt K K0 jo ws ro ∧ RowsOk ws ((n, t) :: rows) ∧ Paired (RowAt K K0) rv ((n, t) :: rows) ∧ rows.length ≤ 4000 ∧ Sep K0 H ((ro, .lst rv) :: M) ∧
  (∀ K1 H' rv', Same K0 K1 → Paired (RowAt K K1) rv' ((n, t + 1) :: rows) → RowsOk ws ((n, t + 1) :: rows) → Sep K1 H' ((ro, .lst rv') :: M) → Q .non H') ∧
  (∀ H' rv' w, w ∈ ws → w.name = n → w.ticks = t + 1 → Paired (RowAt K K0) rv' rows → RowsOk ws rows → Sep K0 H' ((ro, .lst rv') :: M) → Q (.str n) H')

section
variable {P : Program} {w : World} {K : PySem.W.Frag} {mg : Str → Option Value} {base : Heap}

abbrev N_WorkQueue_rows : List Str := ["self"]
theorem sc_WorkQueue_rows : FnScope N_WorkQueue_rows ["self"] (C8.fnScope s_WorkQueue_rows) := C8.fnScope_by (by decide +kernel)
theorem ok_WorkQueue_rows {fd : FuncData} (T : Txt K mg) (F : FunD K "rows" "WorkQueue.rows" (C8.fnArgs s_WorkQueue_rows) (C8.fnBody s_WorkQueue_rows) (C8.fnScope s_WorkQueue_rows) [] [] (He.ma K (aC "WorkQueue" K) "rows") fd) :
    C8.Met P w K mg base 1 (aC "WorkQueue" K) "rows" (sp_WorkQueue_rows K) [] := by
  refine C8.met0 T.cl_WorkQueue T.m_WorkQueue_rows (fun_c8 F) (F.bindsN fun _ _ _ _ _ _ us hl => match us, hl with | [_], _ => rfl) sc_WorkQueue_rows (fun vs H Q E h => ?_) (fun cdv A outer s H vs Q E hr h => ?_)
  · obtain ⟨_, _, _, _, rfl, _⟩ := h
    rfl
  · have nd := sc_WorkQueue_rows.nd
    have hu := hu_of hr
    obtain ⟨jo, ro, ws, rv, rfl, J, hr2, hl, q⟩ := h
    refine ⟨_, (pss_one (ps_ret (pe_callTy call_list_of (by rfl) T.n_list (by decide +kernel) (pa_cons (pe_fld (pv 0) rfl) pa_nil)))), ?_⟩
    obtain ⟨dx, rk, ln, h1, h2, h3⟩ := J.ex
    exact ⟨_, rfl, _, _, _, _, _, rfl, h1, T.cl_WorkQueue, T.t_WorkQueue_rows, rfl, _, _, rfl, .inl (l_of hr2), fun p hp => q p _ (same_new (Same.refl H) hp) hp upd_same⟩
abbrev N_WorkQueue_is_empty : List Str := ["self"]
theorem sc_WorkQueue_is_empty : FnScope N_WorkQueue_is_empty ["self"] (C8.fnScope s_WorkQueue_is_empty) := C8.fnScope_by (by decide +kernel)
theorem ok_WorkQueue_is_empty {fd : FuncData} (T : Txt K mg) (F : FunD K "is_empty" "WorkQueue.is_empty" (C8.fnArgs s_WorkQueue_is_empty) (C8.fnBody s_WorkQueue_is_empty) (C8.fnScope s_WorkQueue_is_empty) [] [] (He.ma K (aC "WorkQueue" K) "is_empty") fd) :
    C8.Met P w K mg base 1 (aC "WorkQueue" K) "is_empty" (sp_WorkQueue_is_empty K) [] := by
  refine C8.met0 T.cl_WorkQueue T.m_WorkQueue_is_empty (fun_c8 F) (F.bindsN fun _ _ _ _ _ _ us hl => match us, hl with | [_], _ => rfl) sc_WorkQueue_is_empty (fun vs H Q E h => ?_) (fun cdv A outer s H vs Q E hr h => ?_)
  · obtain ⟨_, _, _, _, rfl, _⟩ := h
    rfl
  · have nd := sc_WorkQueue_is_empty.nd
    have hu := hu_of hr
    obtain ⟨jo, ro, ws, rv, rfl, J, hr2, q⟩ := h
    refine ⟨_, (pss_one (ps_ret (pe_notT (pe_fld (pv 0) rfl)))), ?_⟩
    obtain ⟨dx, rk, ln, h1, h2, h3⟩ := J.ex
    exact ⟨_, rfl, _, _, _, _, _, rfl, h1, T.cl_WorkQueue, T.t_WorkQueue_rows, rfl, !rv.isEmpty, .inl ⟨_, l_of hr2, rfl⟩, by rw [Bool.not_not]; exact q⟩
abbrev N_WorkQueue_init : List Str := ["self", "works", "work"]
theorem sc_WorkQueue_init : FnScope N_WorkQueue_init ["self", "works"] (C8.fnScope s_WorkQueue_init) := C8.fnScope_by (by decide +kernel)
theorem ok_WorkQueue_init {fd : FuncData} (T : Txt K mg) (F : FunD K "__init__" "WorkQueue.__init__" (C8.fnArgs s_WorkQueue_init) (C8.fnBody s_WorkQueue_init) (C8.fnScope s_WorkQueue_init) [] [] (He.ma K (aC "WorkQueue" K) "__init__") fd) :
    C8.Mak P w K mg base 1 "WorkQueue" (aC "WorkQueue" K) (sp_WorkQueue_init K) [] := by
  refine C8.mak0 (ds := []) T.mk_WorkQueue T.g_WorkQueue (fun_c8 F) (F.bindsN fun _ _ _ _ _ _ us hl => match us, hl with | [_, _], _ => rfl) .nil sc_WorkQueue_init (fun vs H Q E h => ?_) (fun cdv A outer s H vs Q E hr h => ?_)
  · obtain ⟨_, _, _, _, _, _, rfl, _⟩ := h
    rfl
  · have nd := sc_WorkQueue_init.nd
    have hu := hu_of hr
    obtain ⟨x, dx, wa, ws, K0, M, rfl, sp, hW, ok, q⟩ := h
    obtain ⟨xs, hs, hp⟩ := hW.ex
    have hlen := hp.length
    refine ⟨_, (pss_cons (ps_fld (pv 0) (pe_dc (own := [("work", 2)]) rfl nd (pi_tup (pv 1)) (blkOk_by (own := [("work", 2)]) (N := N_WorkQueue_init) (sc := (C8.fnScope s_WorkQueue_init)) (by decide +kernel)) (fun _ _ _ _ _ => (pg_name (i := 2) nd rfl (Or.inl rfl))) (fun _ _ _ _ _ => pts_nil) (fun _ _ _ _ _ => (pe_ix (ix_tup : IxR _ (rIxT K)) (pv 2) pe_int (fun _ _ => rfl))) (fun _ _ _ _ _ => (pe_ix (ix_tup : IxR _ (rIxT K)) (pv 2) pe_int (fun _ _ => rfl)))) rfl)
      (pss_cons (ps_fld (pv 0) (pe_dc (own := [("work", 2)]) rfl nd (pi_tup (pv 1)) (blkOk_by (own := [("work", 2)]) (N := N_WorkQueue_init) (sc := (C8.fnScope s_WorkQueue_init)) (by decide +kernel)) (fun _ _ _ _ _ => (pg_name (i := 2) nd rfl (Or.inl rfl))) (fun _ _ _ _ _ => pts_nil) (fun _ _ _ _ _ => (pe_ix (ix_tup : IxR _ (rIxT K)) (pv 2) pe_int (fun _ _ => rfl))) (fun _ _ _ _ _ => (pe_ix (ix_tup : IxR _ (rIxT K)) (pv 2) pe_int (fun _ _ => rfl)))) rfl)
      (pss_one (ps_fld (pv 0) (pe_lst pa_nil) rfl)))), ?_⟩
    refine ⟨_, rfl, _, rfl, ⟨_, Same.tup sp.ext hs⟩, fun rk hD => ?_⟩
    refine dc_it (walk_tup (xs := xs)) (fun i H' => Sep K0 H' ((rk, .dK (wd (ws.take i) (·.rank))) :: (x, .ins (aC "WorkQueue" K) dx []) :: M)) (sp.own hD) ?_ ?_ ?_
    · rintro i H' _ sp
      exact Same.tup sp.ext hs
    · rintro i v H1 H2 hi sp ⟨rfl, e2⟩
      obtain ⟨l, hl, hL⟩ := pget hp e2
      obtain ⟨c, rfl, hb⟩ := WorkAt.up sp.ext hL
      refine ⟨rfl, ⟨_, rfl, _, _, _, _, rfl, rfl, hb, rfl, _, rfl, _, _, _, _, rfl, rfl, hb, rfl, _, .inr l.name, rfl, sp.c0, ?_, ?_⟩⟩
      · exact sm (m := 12) (by have := ok.le; simp [wd]; omega) (by decide)
      · have z := sp.put0 (o' := .dK (putK (wd (ws.take i) (·.rank)) (.inr l.name) (.int l.rank)))
        rw [wd_snoc (f := (·.rank)) ok.nd hl] at z ⊢
        exact z
    rintro H0 a0
    rw [List.take_of_length_le (by omega)] at a0
    refine ⟨_, rfl, _, _, _, _, rfl, a0.c1, T.cl_WorkQueue, T.t_WorkQueue_ranks, (by simp), ?_⟩
    have t1 := a0.swap.put0 (o' := ((x, .ins (aC "WorkQueue" K) dx [("_ranks", .ref rk)]) : Addr × HO).2)
    refine ⟨_, rfl, _, rfl, ⟨_, Same.tup t1.ext hs⟩, fun ln hD => ?_⟩
    refine dc_it (walk_tup (xs := xs)) (fun i H' => Sep K0 H' ((ln, .dK (wd (ws.take i) (·.ticks))) :: (x, .ins (aC "WorkQueue" K) dx [("_ranks", .ref rk)]) :: (rk, .dK (wd ws (·.rank))) :: M)) (t1.own hD) ?_ ?_ ?_
    · rintro i H' _ sp
      exact Same.tup sp.ext hs
    · rintro i v H1 H2 hi sp ⟨rfl, e2⟩
      obtain ⟨l, hl, hL⟩ := pget hp e2
      obtain ⟨c, rfl, hb⟩ := WorkAt.up sp.ext hL
      refine ⟨rfl, ⟨_, rfl, _, _, _, _, rfl, rfl, hb, rfl, _, rfl, _, _, _, _, rfl, rfl, hb, rfl, _, .inr l.name, rfl, sp.c0, ?_, ?_⟩⟩
      · exact sm (m := 12) (by have := ok.le; simp [wd]; omega) (by decide)
      · have z := sp.put0 (o' := .dK (putK (wd (ws.take i) (·.ticks)) (.inr l.name) (.int l.ticks)))
        rw [wd_snoc (f := (·.ticks)) ok.nd hl] at z ⊢
        exact z
    rintro H1 a1
    rw [List.take_of_length_le (by omega)] at a1
    refine ⟨_, rfl, _, _, _, _, rfl, a1.c1, T.cl_WorkQueue, T.t_WorkQueue_lengths, (by simp), ?_⟩
    have t2 := a1.swap.put0 (o' := ((x, .ins (aC "WorkQueue" K) dx [("_ranks", .ref rk), ("_lengths", .ref ln)]) : Addr × HO).2)
    refine ⟨by simp, fun ro hro => ?_⟩
    have t3 := t2.own (o := .lst []) hro
    refine ⟨_, rfl, _, _, _, _, rfl, t3.c1, T.cl_WorkQueue, T.t_WorkQueue_rows, (by simp), ?_⟩
    have t4 := t3.swap.put0 (o' := ((x, .ins (aC "WorkQueue" K) dx [("_ranks", .ref rk), ("_lengths", .ref ln), ("_rows", .ref ro)]) : Addr × HO).2)
    have u1 := t4.freeze
    have n1 := t4.new0
    have x1 : upd K0 x ((x, .ins (aC "WorkQueue" K) dx [("_ranks", .ref rk), ("_lengths", .ref ln), ("_rows", .ref ro)]) : Addr × HO).2 x = some ((x, .ins (aC "WorkQueue" K) dx [("_ranks", .ref rk), ("_lengths", .ref ln), ("_rows", .ref ro)]) : Addr × HO).2 := upd_same
    have u2 := u1.swap.freeze
    have n2 := u1.swap.new0
    have u3 := u2.swap.freeze
    have n3 := u2.swap.new0
    have g := Same.tr n1 (Same.tr n2 n3)
    exact q _ _ ro g ⟨⟨dx, rk, ln, Same.tr n2 n3 _ _ x1, upd_same, n3 _ _ upd_same⟩, ok⟩ u3
abbrev N_WorkQueue_put : List Str := ["self", "work", "ticks", "rank", "ahead", "name", "_"]
theorem sc_WorkQueue_put : FnScope N_WorkQueue_put ["self", "work", "ticks"] (C8.fnScope s_WorkQueue_put) := C8.fnScope_by (by decide +kernel)
theorem bind_WorkQueue_put {K : PySem.W.Frag} {f : Addr} {fd : FuncData} {dv : V} (F : FunD K "put" "WorkQueue.put" (C8.fnArgs s_WorkQueue_put) (C8.fnBody s_WorkQueue_put) (C8.fnScope s_WorkQueue_put) [dv] [] f fd) : L2.Binds K fd ["self", "work", "ticks"] [] := by
  obtain ⟨ds, hv, hb⟩ := F.binds1 (ps := ["self", "work", "ticks"]) 3 1 (by simp) rfl (fun T kV doc pm an cdv ct us its h1 h2 => match us, its, h1, h2 with | [_, _, _], [_], _, _ => ⟨_, rfl, rfl⟩)
  cases hv
  exact hb
theorem fnok_WorkQueue_put {fd : FuncData} (T : Txt K mg) (F : FunD K "put" "WorkQueue.put" (C8.fnArgs s_WorkQueue_put) (C8.fnBody s_WorkQueue_put) (C8.fnScope s_WorkQueue_put) [.int 0] [] (He.ma K (aC "WorkQueue" K) "put") fd) :
    FnOk P w K mg base C8.CX0 1 (He.ma K (aC "WorkQueue" K) "put") fd ["self", "work", "ticks"] (sp_WorkQueue_put K) := by
  refine C8.fn0 (fun_c8 F) sc_WorkQueue_put (fun vs H Q E h => ?_) (fun cdv A outer s H vs Q E hr h => ?_)
  · obtain ⟨_, _, _, _, _, _, _, _, rfl, _⟩ := h
    rfl
  · have nd := sc_WorkQueue_put.nd
    have hu := hu_of hr
    obtain ⟨jo, ro, ws, rv, rows, l, K0, M, rfl, J, rok, hl, hp, hlen, sp, q⟩ := h
    refine ⟨_, (pss_cons (ps_if (PW.pt (pw_and (pt_cmpR op_eq (pv 2) pe_int (nomark _)) (pw_and1 (pt_cmpR (op_inD (hu65_of hr)) (pe_tup (pa_cons (pv 1) (pa_cons pe_int pa_nil))) (pe_fld (pv 0) rfl) (by rfl))))) (pss_one ps_retN) pss_nil)
      (pss_cons (ps_set (i := 3) nd rfl (Or.inr rfl) (pe_dget hu (pe_fld (pv 0) rfl) (pv 1) (fun _ _ => rfl)))
      (pss_cons (ps_setLc (i := 4) (own := [("name", 5), ("_", 6)]) rfl nd rfl rfl (sw_true rfl rfl rfl (by decide +kernel)) (pi_list (pe_fld (pv 0) rfl)) (blkOk_by (own := [("name", 5), ("_", 6)]) (N := N_WorkQueue_put) (sc := (C8.fnScope s_WorkQueue_put)) (by decide +kernel)) (fun _ _ _ _ _ => (pg_tup (n := 2) rfl (pgs_cons (pg_name (i := 5) nd rfl (Or.inl rfl)) (pgs_cons (pg_name (i := 6) nd rfl (Or.inl rfl)) pgs_nil)) : PG _ _ (gTup K 2 _))) (fun _ _ _ _ _ => (pts_one (pt_cmpR op_ge (pe_dget hu (pe_fld (pv 0) rfl : PE _ _ (tFld K _ _)) (pv 5) (fun _ _ => rfl)) (pv 3) (nomark _)))) (fun _ _ _ _ _ => (pv 5)))
      (pss_one (ps_expr (pe_bm PySem.F.plainAttrs_list PySem.F.slot_list_insert PySem.F.type_list_insert mt_insert (pe_fld (pv 0) rfl) (pa_cons (pe_callB call_len_seq (by rfl) T.n_len (by decide +kernel) (pa_cons (pv 4) pa_nil)) (pa_cons (pe_tup (pa_cons (pv 1) (pa_cons (pv 2) pa_nil))) pa_nil)))))))), ?_⟩
    have hlen2 := hp.length
    refine ⟨_, rfl, rfl, true, rfl, iteT ?_⟩
    refine ⟨_, rfl, small8 (by simp), fun t ht => ?_⟩
    have sp1 := sp.drop (o := .tup [.str l.name, .int 0]) ht
    obtain ⟨dx, rk, ln, h1, h2, h3⟩ := (JobsAt.up sp1.ext J).ex
    have nmo : nameOk l.name := (J.ok.ok l hl).nm
    have rno : ∀ r ∈ rows, nameOk r.1 := fun r m => by
      obtain ⟨w, hw, e, _⟩ := rok r m
      exact e ▸ (J.ok.ok w hw).nm
    refine ⟨_, rfl, _, _, _, _, _, rfl, h1, T.cl_WorkQueue, T.t_WorkQueue_rows, rfl, pd (l.name, 0), rows.map pd, .tup (t_of upd_same) (.cons (.str _) (.cons (.int _) .nil)), .lst (l_of sp1.c0) (rows_dp (hp.mono fun _ _ z => RowAt.up sp1.ext z)), pd_sh1 nmo, pd_sh rno, decide ((l.name, 0) ∈ rows), congrArg V.bl (any_pd rows _), ?_⟩
    by_cases hm : (l.name, 0) ∈ rows
    · rw [decide_eq_true hm]
      refine iteT (q K0 _ rv 0 (Same.refl _) ?_ sp1)
      unfold putR
      rw [if_pos hm]
      exact hp
    rw [decide_eq_false hm]
    refine iteF ?_
    refine ⟨_, rfl, _, _, _, _, _, rfl, h1, T.cl_WorkQueue, T.t_WorkQueue_ranks, rfl, _, rfl, rk, .int l.rank, rfl, wd_at (f := (·.rank)) J.ok.nd hl ▸ DGet.k (k := .inr l.name) h2, ?_⟩
    refine ⟨_, rfl, _, _, _, _, _, rfl, h1, T.cl_WorkQueue, T.t_WorkQueue_rows, rfl, _, rfl, ⟨_, l_of sp1.c0⟩, fun D hD => ?_⟩
    refine lc_it (walk_list (xs := rv)) (fun i H' => ∃ acc, acc.length ≤ i ∧ Sep K0 H' ((D, .lst acc) :: (ro, .lst rv) :: M)) ⟨[], Nat.le_refl _, sp1.own hD⟩ ?_ ?_ ?_
    · rintro i H' _ ⟨_, _, sp⟩
      exact l_of sp.c1
    · rintro i v H1 H2 hi ⟨acc, ha, sp⟩ ⟨rfl, e2⟩
      obtain ⟨r, hr3, c, rfl, hc⟩ := pget hp e2
      obtain ⟨w, hw, ew, _⟩ := rok r (List.mem_of_getElem? hr3)
      obtain ⟨dx', rk', ln', g1, g2, g3⟩ := (JobsAt.up sp.ext J).ex
      refine ⟨_, _, rfl, Same.tup sp.ext hc, rfl, _, _, rfl, _, _, rfl, rfl, rfl, ?_⟩
      refine ⟨_, rfl, _, _, _, _, _, rfl, g1, T.cl_WorkQueue, T.t_WorkQueue_ranks, rfl, _, rfl, rk', .int w.rank, rfl, ?_, _, rfl, _, _, rfl, rfl, decide (l.rank ≤ w.rank), rfl, ?_⟩
      · rw [← ew]
        exact wd_at (f := (·.rank)) J.ok.nd hw ▸ DGet.k (k := .inr w.name) g2
      · cases decide (l.rank ≤ w.rank) with
        | true => exact iteT ⟨_, rfl, _, sp.c0, sm (m := 4000) (by omega) (by decide), _, by simp; omega, sp.put0⟩
        | false => exact iteF ⟨_, by omega, sp⟩
    rintro H3 ⟨acc, ha, sp3⟩
    obtain ⟨dx', rk', ln', g1, g2, g3⟩ := (JobsAt.up sp3.ext J).ex
    refine ⟨_, rfl, _, _, _, _, _, rfl, g1, T.cl_WorkQueue, T.t_WorkQueue_rows, rfl, .inl ⟨rfl, _, .inl (.inl sp3.c1)⟩, _, rfl, _, _, rfl, .inl (l_of sp3.c0), _, rfl, _, rfl, small8 (by simp), fun t2 ht2 => ?_⟩
    have sp4 := sp3.tail.keep (o := .tup [.str l.name, .int 0]) ht2
    have g := sp3.newk (o := .tup [.str l.name, .int 0]) ht2
    refine ⟨_, _, _, _, rfl, rfl, sp4.c0, sm (m := 4000) (by omega) (by decide), by omega, big63 (by omega), ?_⟩
    refine q _ _ _ acc.length g ?_ sp4.put0
    unfold putR
    rw [if_neg hm, Int.toNat_natCast]
    have hp2 := hp.mono fun _ _ z => RowAt.up g z
    exact papp (papp (ptake hp2 _) (.cons ⟨t2, rfl, t_of upd_same⟩ .nil)) (pdrop hp2 _)
theorem ok_WorkQueue_put {fd : FuncData} (T : Txt K mg) (F : FunD K "put" "WorkQueue.put" (C8.fnArgs s_WorkQueue_put) (C8.fnBody s_WorkQueue_put) (C8.fnScope s_WorkQueue_put) [.int 0] [] (He.ma K (aC "WorkQueue" K) "put") fd) :
    C8.Met P w K mg base 1 (aC "WorkQueue" K) "put" (sp_WorkQueue_put K) [] := by
  exact ⟨_, fd, _, [], T.cl_WorkQueue, T.m_WorkQueue_put, fnok_WorkQueue_put T  F, bind_WorkQueue_put F, .nil⟩
theorem ok_WorkQueue_put1 {fd : FuncData} (T : Txt K mg) (F : FunD K "put" "WorkQueue.put" (C8.fnArgs s_WorkQueue_put) (C8.fnBody s_WorkQueue_put) (C8.fnScope s_WorkQueue_put) [.int 0] [] (He.ma K (aC "WorkQueue" K) "put") fd) :
    C8.Met P w K mg base 1 (aC "WorkQueue" K) "put" (sp_WorkQueue_put K) [.int 0] := by
  obtain ⟨ds, hv, hb⟩ := F.binds1 (ps := ["self", "work", "ticks"]) 2 0 (by simp) rfl (fun T kV doc pm an cdv ct us its h1 h2 => match us, its, h1, h2 with | [_, _], [_], _, _ => ⟨_, rfl, rfl⟩)
  exact ⟨_, fd, _, ds, T.cl_WorkQueue, T.m_WorkQueue_put, fnok_WorkQueue_put T  F, hb, hv⟩
abbrev N_WorkQueue_spend : List Str := ["self", "work", "ticks"]
theorem sc_WorkQueue_spend : FnScope N_WorkQueue_spend ["self"] (C8.fnScope s_WorkQueue_spend) := C8.fnScope_by (by decide +kernel)
theorem ok_WorkQueue_spend {fd : FuncData} (T : Txt K mg) (F : FunD K "spend" "WorkQueue.spend" (C8.fnArgs s_WorkQueue_spend) (C8.fnBody s_WorkQueue_spend) (C8.fnScope s_WorkQueue_spend) [] [] (He.ma K (aC "WorkQueue" K) "spend") fd) :
    C8.Met P w K mg base 1 (aC "WorkQueue" K) "spend" (sp_WorkQueue_spend K) [] := by
  refine C8.met0 T.cl_WorkQueue T.m_WorkQueue_spend (fun_c8 F) (F.bindsN fun _ _ _ _ _ _ us hl => match us, hl with | [_], _ => rfl) sc_WorkQueue_spend (fun vs H Q E h => ?_) (fun cdv A outer s H vs Q E hr h => ?_)
  · obtain ⟨_, _, _, _, _, _, _, _, _, rfl, _⟩ := h
    rfl
  · have nd := sc_WorkQueue_spend.nd
    have hu := hu_of hr
    obtain ⟨jo, ro, ws, rv, n, t, rows, K0, M, rfl, J, rok, hp, hlen, sp, q1, q2⟩ := h
    refine ⟨_, (pss_cons (ps_asg (pe_ix ix_list (pe_fld (pv 0) rfl) pe_int (fun _ _ => rfl)) (pg_tup rfl (pgs_cons (pg_name (i := 1) nd rfl (Or.inl rfl)) (pgs_cons (pg_name (i := 2) nd rfl (Or.inl rfl)) pgs_nil))))
      (pss_cons (ps_if (pt_cmpR op_lt (pe_op op_add (pv 2) pe_int) (pe_dget hu (pe_fld (pv 0) rfl) (pv 1) (fun _ _ => rfl)) (nomark _)) (pss_cons (ps_asg (pe_tup (pa_cons (pv 1) (pa_cons (pe_op op_add (pv 2) pe_int) pa_nil))) (pg_sub (pe_fld (pv 0) rfl) pe_int set_list))
      (pss_one (ps_ret pe_non))) pss_nil)
      (pss_cons (ps_expr (pe_bm PySem.F.plainAttrs_list PySem.F.slot_list_pop PySem.F.type_list_pop mt_popAt (pe_fld (pv 0) rfl) (pa_cons pe_int pa_nil)))
      (pss_one (ps_ret (pv 1)))))), ?_⟩
    obtain ⟨dx, rk, ln, h1, h2, h3⟩ := (JobsAt.up sp.ext J).ex
    have hn := rok (n, t) List.mem_cons_self
    obtain ⟨w, hw, ew, ht0, ht1⟩ := hn
    cases hp with
    | @cons v _ vs _ hv hvs =>
    obtain ⟨c, rfl, hc⟩ := hv
    refine ⟨_, rfl, _, _, _, _, _, rfl, h1, T.cl_WorkQueue, T.t_WorkQueue_rows, rfl, _, _, _, _, rfl, rfl, l_of sp.c0, atI0, ?_⟩
    refine ⟨_, _, rfl, Same.tup sp.ext hc, rfl, _, _, rfl, _, _, rfl, rfl, ?_⟩
    refine ⟨_, rfl, _, _, rfl, rfl, _, rfl, _, _, _, _, _, rfl, h1, T.cl_WorkQueue, T.t_WorkQueue_lengths, rfl, _, rfl, ln, .int w.ticks, rfl, ?_, _, _, rfl, rfl, decide (t + 1 < w.ticks), rfl, ?_⟩
    · show DGet H ln (V.str n) _
      rw [show n = w.name from ew.symm]
      exact wd_at (f := (·.ticks)) J.ok.nd hw ▸ DGet.k (k := .inr w.name) h3
    by_cases hlt : t + 1 < w.ticks
    · rw [decide_eq_true hlt]
      refine iteT ⟨_, rfl, _, rfl, _, _, rfl, rfl, small8 (by simp), fun t2 ht2 => ?_⟩
      have sp4 := sp.keep (o := .tup [.str n, .int (t + 1)]) ht2
      have g := sp.newk (o := .tup [.str n, .int (t + 1)]) ht2
      obtain ⟨dx, rk, ln, h1, h2, h3⟩ := (JobsAt.up (Same.tr g sp4.ext) J).ex
      refine ⟨_, rfl, _, _, _, _, _, rfl, h1, T.cl_WorkQueue, T.t_WorkQueue_rows, rfl, _, _, _, 0, rfl, rfl, sp4.c0, by simp [ixN], ?_⟩
      refine q1 _ _ _ g (.cons ⟨t2, rfl, t_of upd_same⟩ (hvs.mono fun _ _ z => RowAt.up g z)) ?_ sp4.put0
      intro r m
      rcases List.mem_cons.mp m with e | m
      · subst e
        exact ⟨w, hw, ew, by simp; omega, hlt⟩
      · exact rok r (List.mem_cons_of_mem _ m)
    · rw [decide_eq_false hlt]
      refine iteF ?_
      refine ⟨_, rfl, _, _, _, _, _, rfl, h1, T.cl_WorkQueue, T.t_WorkQueue_rows, rfl, .inl ⟨rfl, _, .inl (.inl sp.c0)⟩, _, _, _, 0, _, rfl, rfl, sp.c0, by decide, by decide, by simp [seqIndex?], rfl, ?_⟩
      exact ⟨_, rfl, q2 _ _ w hw ew (by omega) hvs (fun r m => rok r (List.mem_cons_of_mem _ m)) sp.put0⟩
end
end Cb

namespace Cb
open PySem PySem.Spec PyProof.Rows L2

theorem pe_nev {X : Cx} {e : Expr} : PE X e (fun _ _ _ => False) := ⟨fun _ _ _ _ _ _ h => h.elim⟩
theorem atIm {v : V} {l : List V} : atI (l ++ [v]) (-1) = some v := by
  unfold atI ixN
  rw [if_neg (by decide), if_pos (by simp; omega)]
  simp
  rw [show (-1 + ((l.length : Int) + 1)).toNat = l.length by omega]
  simp
theorem cut2 {a b c d : V} : cutV [a, b, c, d] none (some 2) = [a, b] := by simp [cutV, HT.sIx]
theorem cut3 {a b c d : V} : cutV [a, b, c, d] none (some 3) = [a, b, c] := by simp [cutV, HT.sIx]
theorem ixNm {v : V} {l : List V} : ixN (l ++ [v]).length (-1) = some l.length := by
  unfold ixN
  rw [if_neg (by decide), if_pos (by simp; omega)]
  simp
  omega
theorem set_last {α : Type} (l : List α) (x y : α) : (l ++ [x]).set l.length y = l ++ [y] := by
  rw [List.set_append_right _ _ (Nat.le_refl _)]
  simp
theorem psnoc {α β : Type} {F : α → β → Prop} {m : List β} {b : β} : ∀ {l : List α}, Paired F l (m ++ [b]) → ∃ l' a, l = l' ++ [a] ∧ Paired F l' m ∧ F a b := by
  induction m with
  | nil =>
    intro l h
    cases h with
    | cons f p => cases p with
      | nil => exact ⟨[], _, rfl, .nil, f⟩
  | cons c m ih =>
    intro l h
    cases h with
    | cons f p =>
      obtain ⟨l', a, rfl, p', f'⟩ := ih p
      exact ⟨_ :: l', a, rfl, .cons f p', f'⟩
structure CallD where
  line : LineD
  step : Nat
  ticks : Int
  kept : Int
structure StD where
  rung : Str → Bool
  und : Str → Bool
  bar : Int
  stack : List CallD
  rows : List (Str × Int)
  c0 : Int
  c1 : Int
  c2 : Int
  c3 : Int
structure Ad where
  su : Addr
  bo : Addr
  r : Addr
  u : Addr
  pr : Addr
  dp : Addr
  st : Addr
  jo : Addr
  ro : Addr
  co : Addr
def CallAt (K : PySem.W.Frag) (H : Hp) (v : V) (c : CallD) : Prop := ∃ t, v = .ref t ∧ SqT K H t [.str c.line.name, .int (c.step : Nat), .int c.ticks, .int c.kept]
theorem CallAt.up {K : PySem.W.Frag} {H H' : Hp} {v : V} {r : CallD} (e : Same H H') (h : CallAt K H v r) : CallAt K H' v r := h.elim fun a h => ⟨a, h.1, Same.tup e h.2⟩
def prI (K : PySem.W.Frag) (A : Ad) (bar : Int) : HO := .ins (aC "Processor" K) A.dp [("_setup", .ref A.su), ("_board", .ref A.bo), ("_bar", .int bar), ("_stack", .ref A.st), ("_jobs", .ref A.jo), ("_counts", .ref A.co)]
def lay (K : PySem.W.Frag) (A : Ad) (S : SetD) (s : StD) (sv rv : List V) (M : List (Addr × HO)) : List (Addr × HO) :=
  (A.r, .dK (bd S.order s.rung)) :: (A.u, .dK (bd S.order s.und)) :: (A.pr, prI K A s.bar) :: (A.st, .lst sv) :: (A.ro, .lst rv) :: (A.co, .lst [.int s.c0, .int s.c1, .int s.c2, .int s.c3]) :: M
structure Own (K : PySem.W.Frag) (A : Ad) (S : SetD) (K0 H : Hp) (s : StD) (M : List (Addr × HO)) : Prop where
  fb : BoardAt K K0 A.bo A.su S A.r A.u
  fj : JobsAt K K0 A.jo S.ws A.ro
  ex : ∃ sv rv, Paired (CallAt K K0) sv s.stack ∧ Paired (RowAt K K0) rv s.rows ∧ Sep K0 H (lay K A S s sv rv M)
theorem Own.grow {K : PySem.W.Frag} {A : Ad} {S : SetD} {K0 H H' : Hp} {s : StD} {M : List (Addr × HO)} (h : Own K A S K0 H s M) (g : Same H H') : Own K A S K0 H' s M := by
  obtain ⟨sv, rv, h1, h2, h3⟩ := h.ex
  exact ⟨h.fb, h.fj, sv, rv, h1, h2, h3.grow g⟩
theorem Own.mk2 {K : PySem.W.Frag} {A : Ad} {S : SetD} {K0 K1 H : Hp} {s0 s : StD} {M0 M : List (Addr × HO)} {H0 : Hp} (h : Own K A S K0 H0 s0 M0) (g : Same K0 K1) (ex : ∃ sv rv, Paired (CallAt K K1) sv s.stack ∧ Paired (RowAt K K1) rv s.rows ∧ Sep K1 H (lay K A S s sv rv M)) : Own K A S K1 H s M := ⟨BoardAt.up g h.fb, JobsAt.up g h.fj, ex⟩
section
variable {K0 H : Hp} {L : List (Addr × HO)} {a1 a2 a3 a4 a5 : Addr × HO} {a : Addr} {x y : HO}
theorem Sep.c2 (s : Sep K0 H (a1 :: a2 :: (a, x) :: L)) : H a = some x := s.cs.2.2.1
theorem Sep.c3 (s : Sep K0 H (a1 :: a2 :: a3 :: (a, x) :: L)) : H a = some x := s.cs.2.2.2.1
theorem Sep.c4 (s : Sep K0 H (a1 :: a2 :: a3 :: a4 :: (a, x) :: L)) : H a = some x := s.cs.2.2.2.2.1
theorem Sep.c5 (s : Sep K0 H (a1 :: a2 :: a3 :: a4 :: a5 :: (a, x) :: L)) : H a = some x := s.cs.2.2.2.2.2.1
theorem Sep.put1 (s : Sep K0 H (a1 :: (a, x) :: L)) : Sep K0 (upd H a y) (a1 :: (a, y) :: L) := Sep.put (L1 := [a1]) s
theorem Sep.put2 (s : Sep K0 H (a1 :: a2 :: (a, x) :: L)) : Sep K0 (upd H a y) (a1 :: a2 :: (a, y) :: L) := Sep.put (L1 := [a1, a2]) s
theorem Sep.put3 (s : Sep K0 H (a1 :: a2 :: a3 :: (a, x) :: L)) : Sep K0 (upd H a y) (a1 :: a2 :: a3 :: (a, y) :: L) := Sep.put (L1 := [a1, a2, a3]) s
theorem Sep.put4 (s : Sep K0 H (a1 :: a2 :: a3 :: a4 :: (a, x) :: L)) : Sep K0 (upd H a y) (a1 :: a2 :: a3 :: a4 :: (a, y) :: L) := Sep.put (L1 := [a1, a2, a3, a4]) s
theorem Sep.put5 (s : Sep K0 H (a1 :: a2 :: a3 :: a4 :: a5 :: (a, x) :: L)) : Sep K0 (upd H a y) (a1 :: a2 :: a3 :: a4 :: a5 :: (a, y) :: L) := Sep.put (L1 := [a1, a2, a3, a4, a5]) s
theorem Sep.up4 {e : Addr × HO} (s : Sep K0 H (a1 :: a2 :: a3 :: a4 :: e :: L)) : Sep K0 H (e :: a1 :: a2 :: a3 :: a4 :: L) := s.perm (List.perm_middle (l₁ := [a1, a2, a3, a4])).symm
theorem Sep.dn4 {e : Addr × HO} (s : Sep K0 H (e :: a1 :: a2 :: a3 :: a4 :: L)) : Sep K0 H (a1 :: a2 :: a3 :: a4 :: e :: L) := s.perm (List.perm_middle (l₁ := [a1, a2, a3, a4]))
theorem Sep.dn6 {e a6 : Addr × HO} (s : Sep K0 H (e :: a1 :: a2 :: a3 :: a4 :: a5 :: a6 :: L)) : Sep K0 H (a1 :: a2 :: a3 :: a4 :: a5 :: a6 :: e :: L) := s.perm (List.perm_middle (l₁ := [a1, a2, a3, a4, a5, a6]))
theorem Sep.up6 {e a6 : Addr × HO} (s : Sep K0 H (a1 :: a2 :: a3 :: a4 :: a5 :: a6 :: e :: L)) : Sep K0 H (e :: a1 :: a2 :: a3 :: a4 :: a5 :: a6 :: L) := s.perm (List.perm_middle (l₁ := [a1, a2, a3, a4, a5, a6])).symm
end
def sp_Setup_works (K : PySem.W.Frag) : Sp := fun vs H Q _ => ∃ (su : Addr) (S : SetD) (K0 : Hp), vs = [.ref su] ∧ SetupAt K K0 su S ∧ Same K0 H ∧ ∀ wa, WorksAt K K0 wa S.ws → Q (.ref wa) H
def sp_Processor_lets_by (K : PySem.W.Frag) : Sp := fun vs H Q _ => ∃ (A : Ad) (S : SetD) (K0 : Hp) (s : StD) (M : List (Addr × HO)) (l : LineD), vs = [.ref A.pr, .str l.name] ∧ Own K A S K0 H s M ∧ l ∈ S.ls ∧ (∀ c ∈ s.stack, c.line ∈ S.ls) ∧ ∀ b, Q (.bl b) H
def sp_Processor_present_step (K : PySem.W.Frag) : Sp := fun vs H Q _ => ∃ (A : Ad) (S : SetD) (K0 : Hp) (s : StD) (M : List (Addr × HO)) (rest : List CallD) (c : CallD) (st : SD), vs = [.ref A.pr] ∧ Own K A S K0 H s M ∧ s.stack = rest ++ [c] ∧ c.line ∈ S.ls ∧ c.line.steps[c.step]? = some st ∧ ∀ v H', Same H H' → StepAt K K0 v st → Q v H'
def sp_Processor_passes_flag (K : PySem.W.Frag) : Sp := fun vs H Q _ => ∃ (A : Ad) (S : SetD) (K0 : Hp) (s : StD) (M : List (Addr × HO)), vs = [.ref A.pr] ∧ Own K A S K0 H s M ∧ (∀ c ∈ s.stack, c.line ∈ S.ls ∧ ∃ st, c.line.steps[c.step]? = some st) ∧ ∀ H', Same H H' → Q (.bl false) H'
def SD.later? : SD → Bool
  | .later _ => true
  | _ => false
def sp_Processor_takes_no_tick (K : PySem.W.Frag) : Sp := fun vs H Q _ => ∃ (pr : Addr) (v : V) (st : SD), vs = [.ref pr, v] ∧ StepAt K H v st ∧ Q (.bl st.later?) H
def rsum (rows : List (Str × Int)) : Int := (rows.map (·.2)).sum
theorem putR_ok (k : Nat) {ws : List WorkD} {rows : List (Str × Int)} {w : WorkD} (ro : RowsOk ws rows) (hw : w ∈ ws) (ok : WsOk ws) : RowsOk ws (putR k rows w.name) ∧ rsum (putR k rows w.name) = rsum rows ∧ (putR k rows w.name).length ≤ rows.length + 1 := by
  unfold putR
  split
  · exact ⟨ro, rfl, by omega⟩
  · refine ⟨fun r m => ?_, ?_, ?_⟩
    · simp only [List.mem_append, List.mem_singleton] at m
      rcases m with (m | m) | m
      · exact ro r (List.mem_of_mem_take m)
      · subst m
        exact ⟨w, hw, rfl, by simp, by have := (ok.ok w hw).t1; simp; omega⟩
      · exact ro r (List.mem_of_mem_drop m)
    · unfold rsum
      have e : rows.map (·.2) = (rows.take k ++ rows.drop k).map (·.2) := by rw [List.take_append_drop]
      rw [List.map_append, List.map_append, List.sum_append, List.sum_append, e, List.map_append, List.sum_append]
      have z : ([((w.name : Str), (0 : Int))].map (·.2)).sum = 0 := rfl
      omega
    · simp
      omega
def sp_Processor_act (K : PySem.W.Frag) : Sp := fun vs H Q _ => ∃ (A : Ad) (S : SetD) (K0 : Hp) (s : StD) (M : List (Addr × HO)) (v : V) (n : Str), vs = [.ref A.pr, v] ∧ StepAt K K0 v (.later n) ∧ n ∈ S.ws.map (·.name) ∧ Own K A S K0 H s M ∧ RowsOk S.ws s.rows ∧ s.rows.length ≤ 4000 ∧
  ∀ K1 H' rows', Same K0 K1 → Own K A S K1 H' { s with rows := rows' } M → RowsOk S.ws rows' → rsum rows' = rsum s.rows → rows'.length ≤ s.rows.length + 1 → Q .non H'

section
variable {P : Program} {w : World} {K : PySem.W.Frag} {mg : Str → Option Value} {base : Heap}

abbrev N_Setup_works : List Str := ["self"]
theorem sc_Setup_works : FnScope N_Setup_works ["self"] (C8.fnScope s_Setup_works) := C8.fnScope_by (by decide +kernel)
theorem ok_Setup_works {fd : FuncData} (T : Txt K mg) (F : FunD K "works" "Setup.works" (C8.fnArgs s_Setup_works) (C8.fnBody s_Setup_works) (C8.fnScope s_Setup_works) [] [] (prA "Setup" "works" K) fd) :
    FnP P w K mg base 1 (prA "Setup" "works" K) (sp_Setup_works K) := by
  refine fnP_mk (fun_c8 F) (F.bindsN fun _ _ _ _ _ _ us hl => match us, hl with | [_], _ => rfl) sc_Setup_works (fun vs H Q E h => ?_) (fun cdv A outer s H vs Q E hr h => ?_)
  · obtain ⟨_, _, _, rfl, _⟩ := h
    rfl
  · have nd := sc_Setup_works.nd
    have hu := hu_of hr
    obtain ⟨su, S, K0, rfl, ⟨dx, la, wa, bn, oa, xs, h1, h2, h3, h4, h5, h6⟩, sm, q⟩ := h
    refine ⟨_, (pss_one (ps_ret (pe_fld (pv 0) rfl))), ?_⟩
    exact ⟨_, rfl, _, _, _, _, _, rfl, sm _ _ h1, T.cl_Setup, T.t_Setup_works, rfl, q wa h3⟩
abbrev N_Processor_takes_no_tick : List Str := ["self", "step", "word", "what"]
theorem sc_Processor_takes_no_tick : FnScope N_Processor_takes_no_tick ["self", "step"] (C8.fnScope s_Processor_takes_no_tick) := C8.fnScope_by (by decide +kernel)
theorem ok_Processor_takes_no_tick {fd : FuncData} (T : Txt K mg) (F : FunD K "_takes_no_tick" "Processor._takes_no_tick" (C8.fnArgs s_Processor_takes_no_tick) (C8.fnBody s_Processor_takes_no_tick) (C8.fnScope s_Processor_takes_no_tick) [] [] (He.ma K (aC "Processor" K) "_takes_no_tick") fd) :
    C8.Met P w K mg base 1 (aC "Processor" K) "_takes_no_tick" (sp_Processor_takes_no_tick K) [] := by
  refine C8.met0 T.cl_Processor T.m_Processor_takes_no_tick (fun_c8 F) (F.bindsN fun _ _ _ _ _ _ us hl => match us, hl with | [_, _], _ => rfl) sc_Processor_takes_no_tick (fun vs H Q E h => ?_) (fun cdv A outer s H vs Q E hr h => ?_)
  · obtain ⟨_, _, _, rfl, _⟩ := h
    rfl
  · have nd := sc_Processor_takes_no_tick.nd
    have hu := hu_of hr
    obtain ⟨pr, v, st, rfl, ⟨a, rfl, ha⟩, q⟩ := h
    refine ⟨_, (pss_cons (ps_asg (pv 1) (pg_tup rfl (pgs_cons (pg_name (i := 2) nd rfl (Or.inl rfl)) (pgs_cons (pg_name (i := 3) nd rfl (Or.inl rfl)) pgs_nil))))
      (pss_cons (ps_if (pt_cmpR op_eq (pv 2) pe_str (nomark _)) (pss_one ps_never) pss_nil)
      (pss_one (ps_ret (pe_cmpR op_ne (pv 2) pe_str (nomark _)))))), ?_⟩
    refine ⟨_, rfl, _, _, rfl, ha, rfl, _, _, rfl, _, _, rfl, rfl, ?_⟩
    cases st with
    | run n => exact ⟨_, rfl, rfl, false, rfl, iteF ⟨_, rfl, rfl, q⟩⟩
    | later n => exact ⟨_, rfl, rfl, false, rfl, iteF ⟨_, rfl, rfl, q⟩⟩
abbrev N_Processor_present_step : List Str := ["self", "line", "step"]
theorem sc_Processor_present_step : FnScope N_Processor_present_step ["self"] (C8.fnScope s_Processor_present_step) := C8.fnScope_by (by decide +kernel)
theorem ok_Processor_present_step {fd : FuncData} (T : Txt K mg) (F : FunD K "_present_step" "Processor._present_step" (C8.fnArgs s_Processor_present_step) (C8.fnBody s_Processor_present_step) (C8.fnScope s_Processor_present_step) [] [] (He.ma K (aC "Processor" K) "_present_step") fd) (c_getitem : C8.Met P w K mg base 2 (aC "Setup" K) "__getitem__" (sp_Setup_getitem K) []) :
    C8.Met P w K mg base 4 (aC "Processor" K) "_present_step" (sp_Processor_present_step K) [] := by
  refine C8.met0 T.cl_Processor T.m_Processor_present_step (fun_c8 F) (F.bindsN fun _ _ _ _ _ _ us hl => match us, hl with | [_], _ => rfl) sc_Processor_present_step (fun vs H Q E h => ?_) (fun cdv A outer s H vs Q E hr h => ?_)
  · obtain ⟨_, _, _, _, _, _, _, _, rfl, _⟩ := h
    rfl
  · have nd := sc_Processor_present_step.nd
    have hu := hu_of hr
    obtain ⟨A, S, K0, s, M, rest, c, st, rfl, ow, hst, hl, hs, q⟩ := h
    refine ⟨_, (pss_cons (ps_asg (pe_slice sl_tup (pe_ix ix_list (pe_fld (pv 0) rfl) (pe_un un_neg pe_int) (fun _ _ => rfl)) po_none (po_some pe_int)) (pg_tup rfl (pgs_cons (pg_name (i := 1) nd rfl (Or.inl rfl)) (pgs_cons (pg_name (i := 2) nd rfl (Or.inl rfl)) pgs_nil))))
      (pss_one (ps_ret (pe_ix ix_tup (pe_ix ix_tup (C_ix T.m_Setup_getitem T.i_getitem c_getitem hr (by decide) (pe_fld (pv 0) rfl) (pv 1)) pe_int (fun _ _ => rfl)) (pv 2) (fun _ _ => rfl))))), ?_⟩
    obtain ⟨sv, rv, h1, h2, sp⟩ := ow.ex
    obtain ⟨dx2, _, _, _, _, _, h3, _⟩ := ow.fb.su.ex
    rw [hst] at h1
    obtain ⟨sv', v, rfl, h4, t, rfl, ht⟩ := psnoc h1
    have hpr := sp.c2
    refine ⟨_, rfl, _, _, _, _, _, rfl, hpr, T.cl_Processor, T.t_Processor_stack, rfl, _, rfl, _, _, _, _, rfl, rfl, l_of sp.c3, atIm, _, rfl, _, _, rfl, Same.tup sp.ext ht, by simp [HT.sIx], fun p hp => ?_⟩
    rw [cut2]
    have sp2 := sp.drop (o := .tup [.str c.line.name, .int (c.step : Nat)]) hp
    have g := same_new (o := .tup [.str c.line.name, .int (c.step : Nat)]) (Same.refl H) hp
    have hpr2 := g _ _ hpr
    refine ⟨_, _, rfl, t_of upd_same, rfl, _, _, rfl, _, _, rfl, rfl, ?_⟩
    refine ⟨_, rfl, _, _, _, _, _, rfl, hpr2, T.cl_Processor, T.t_Processor_setup, rfl, _, rfl, A.su, dx2, _, rfl, sp2.ext _ _ h3, A.su, S, c.line, K0, rfl, ow.fb.su, sp2.ext, ow.fb.ok, hl, fun v hv => ?_⟩
    obtain ⟨a, g1, hs1, rfl, h5, h6, h7⟩ := hv
    obtain ⟨x, hx, hx2⟩ := pgetr h7 hs
    exact ⟨_, _, _, _, rfl, rfl, Same.tup sp2.ext h5, rfl, _, rfl, _, _, _, _, rfl, rfl, Same.tup sp2.ext h6, atIn hx, q _ _ g hx2⟩
abbrev N_Processor_passes_flag : List Str := ["self", "word", "what"]
theorem sc_Processor_passes_flag : FnScope N_Processor_passes_flag ["self"] (C8.fnScope s_Processor_passes_flag) := C8.fnScope_by (by decide +kernel)
theorem ok_Processor_passes_flag {fd : FuncData} (T : Txt K mg) (F : FunD K "_passes_flag" "Processor._passes_flag" (C8.fnArgs s_Processor_passes_flag) (C8.fnBody s_Processor_passes_flag) (C8.fnScope s_Processor_passes_flag) [] [] (He.ma K (aC "Processor" K) "_passes_flag") fd) (c_present_step : C8.Met P w K mg base 4 (aC "Processor" K) "_present_step" (sp_Processor_present_step K) []) :
    C8.Met P w K mg base 5 (aC "Processor" K) "_passes_flag" (sp_Processor_passes_flag K) [] := by
  refine C8.met0 T.cl_Processor T.m_Processor_passes_flag (fun_c8 F) (F.bindsN fun _ _ _ _ _ _ us hl => match us, hl with | [_], _ => rfl) sc_Processor_passes_flag (fun vs H Q E h => ?_) (fun cdv A outer s H vs Q E hr h => ?_)
  · obtain ⟨_, _, _, _, _, rfl, _⟩ := h
    rfl
  · have nd := sc_Processor_passes_flag.nd
    have hu := hu_of hr
    obtain ⟨A, S, K0, s, M, rfl, ow, hc, q⟩ := h
    refine ⟨_, (pss_cons (ps_if (pt_not (pt_truth (pe_fld (pv 0) rfl) (by intro _; rfl))) (pss_one (ps_ret pe_bl)) pss_nil)
      (pss_cons (ps_asg (C8.pe_mt0 c_present_step hr (by decide) (pv 0)) (pg_tup rfl (pgs_cons (pg_name (i := 1) nd rfl (Or.inl rfl)) (pgs_cons (pg_name (i := 2) nd rfl (Or.inl rfl)) pgs_nil))))
      (pss_one (ps_ret (pe_and (pe_cmpR op_eq (pv 1) pe_str (nomark _)) (pe_one pe_nev)))))), ?_⟩
    obtain ⟨sv, rv, h1, h2, sp⟩ := ow.ex
    have hpr := sp.c2
    rcases List.eq_nil_or_concat s.stack with e1 | ⟨rest, c, e1⟩
    · rw [e1] at h1
      cases h1
      exact ⟨_, rfl, _, _, _, _, _, rfl, hpr, T.cl_Processor, T.t_Processor_stack, rfl, false, .inl ⟨_, l_of sp.c3, rfl⟩, iteT (q H (Same.refl H))⟩
    rw [List.concat_eq_append] at e1
    have h1' := h1
    rw [e1] at h1'
    obtain ⟨sv', v, e2, h4, t, rfl, ht⟩ := psnoc h1'
    obtain ⟨hl, st, hs⟩ := hc c (by rw [e1]; simp)
    refine ⟨_, rfl, _, _, _, _, _, rfl, hpr, T.cl_Processor, T.t_Processor_stack, rfl, true, .inl ⟨_, l_of sp.c3, by rw [e2]; simp⟩, iteF ?_⟩
    refine ⟨_, rfl, A.pr, A.dp, _, rfl, hpr, rfl, A, S, K0, s, M, rest, c, st, rfl, ow, e1, hl, hs, fun v H1 g1 hv => ?_⟩
    obtain ⟨a, rfl, ha⟩ := hv
    refine ⟨_, _, rfl, Same.tup (Same.tr sp.ext g1) ha, rfl, _, _, rfl, _, _, rfl, rfl, ?_⟩
    refine ⟨_, rfl, rfl, false, ?_, iteF (q H1 g1)⟩
    cases st <;> rfl
abbrev N_Processor_act : List Str := ["self", "step", "word", "what"]
theorem sc_Processor_act : FnScope N_Processor_act ["self", "step"] (C8.fnScope s_Processor_act) := C8.fnScope_by (by decide +kernel)
theorem ok_Processor_act {fd : FuncData} (T : Txt K mg) (F : FunD K "_act" "Processor._act" (C8.fnArgs s_Processor_act) (C8.fnBody s_Processor_act) (C8.fnScope s_Processor_act) [] [] (He.ma K (aC "Processor" K) "_act") fd) (c_put : C8.Met P w K mg base 1 (aC "WorkQueue" K) "put" (sp_WorkQueue_put K) [.int 0]) :
    C8.Met P w K mg base 2 (aC "Processor" K) "_act" (sp_Processor_act K) [] := by
  refine C8.met0 T.cl_Processor T.m_Processor_act (fun_c8 F) (F.bindsN fun _ _ _ _ _ _ us hl => match us, hl with | [_, _], _ => rfl) sc_Processor_act (fun vs H Q E h => ?_) (fun cdv A outer s H vs Q E hr h => ?_)
  · obtain ⟨_, _, _, _, _, _, _, rfl, _⟩ := h
    rfl
  · have nd := sc_Processor_act.nd
    have hu := hu_of hr
    obtain ⟨A, S, K0, s, M, v, n, rfl, ⟨a, rfl, ha⟩, hn, ow, ro, hl, q⟩ := h
    refine ⟨_, (pss_cons (ps_asg (pv 1) (pg_tup rfl (pgs_cons (pg_name (i := 2) nd rfl (Or.inl rfl)) (pgs_cons (pg_name (i := 3) nd rfl (Or.inl rfl)) pgs_nil))))
      (pss_one (ps_if (pt_cmpR op_eq (pv 2) pe_str (nomark _)) (pss_one ps_never) (pss_one (ps_if (pt_cmpR op_eq (pv 2) pe_str (nomark _)) (pss_one (ps_expr (C8.pe_mt c_put hr (by decide) (pe_fld (pv 0) rfl) (pa_cons (pv 3) pa_nil)))) (pss_one ps_never)))))), ?_⟩
    obtain ⟨sv, rv, h1, h2, sp⟩ := ow.ex
    have hpr := sp.c2
    obtain ⟨dj, rk, ln, j1, _⟩ := (JobsAt.up sp.ext ow.fj).ex
    obtain ⟨w, hw, rfl⟩ := List.mem_map.mp hn
    refine ⟨_, rfl, _, _, rfl, Same.tup sp.ext ha, rfl, _, _, rfl, _, _, rfl, rfl, ?_⟩
    refine ⟨_, rfl, rfl, false, rfl, iteF ⟨_, rfl, rfl, true, rfl, iteT ?_⟩⟩
    refine ⟨_, rfl, _, _, _, _, _, rfl, hpr, T.cl_Processor, T.t_Processor_jobs, rfl, A.jo, dj, _, rfl, j1, rfl, _, rfl, A.jo, A.ro, S.ws, rv, s.rows, w, K0, _, rfl, ow.fj, ro, hw, h2, hl, sp.up4, fun K1 H1 rv' k g hp sp1 => ?_⟩
    have pr := putR_ok k ro hw (ow.fj.ok)
    exact q K1 H1 (putR k s.rows w.name) g (ow.mk2 (s := { s with rows := putR k s.rows w.name }) g ⟨sv, rv', h1.mono fun _ _ z => CallAt.up g z, hp, sp1.dn4⟩) pr.1 pr.2.1 pr.2.2
end
end Cb

namespace Cb
open PySem PySem.Spec PyProof.Rows L2

def befS (l : LineD) (j : Nat) : Int := ((l.steps.take j).filterMap SD.run?).sum
def bef (c : CallD) : Int := befS c.line c.step + c.ticks
def due (st : List CallD) : Int := (st.map bef).sum
theorem due_snoc (r : List CallD) (c : CallD) : due (r ++ [c]) = due r + bef c := by simp [due]
theorem befS_run {l : LineD} {j : Nat} {n : Int} (h : l.steps[j]? = some (.run n)) : befS l (j + 1) = befS l j + n := by
  unfold befS
  rw [take_snoc h, List.filterMap_append, List.sum_append]
  exact congrArg (fun z => (List.filterMap SD.run? (List.take j l.steps)).sum + z) (Int.add_zero n)
theorem befS_later {l : LineD} {j : Nat} {x : Str} (h : l.steps[j]? = some (.later x)) : befS l (j + 1) = befS l j := by
  unfold befS
  rw [take_snoc h, List.filterMap_append, List.sum_append]
  exact Int.add_zero _
theorem befS_all {l : LineD} {j : Nat} (h : l.steps.length ≤ j) : befS l j = l.ticks := by
  unfold befS LineD.ticks
  rw [List.take_of_length_le h]
inductive Ev where
  | bgn (l : LineD)
  | fin (l : LineD)
  | dne (w : WorkD)
def Ev.word : Ev → Str
  | bgn _ => "begin"
  | fin _ => "end"
  | dne _ => "done"
def Ev.name : Ev → Str
  | bgn l => l.name
  | fin l => l.name
  | dne w => w.name
def Ev.ec : Ev → Int
  | fin l => l.ticks
  | _ => 0
def Ev.dc : Ev → Int
  | dne w => w.ticks
  | _ => 0
def ecost (es : List Ev) : Int := (es.map Ev.ec).sum
def dcost (es : List Ev) : Int := (es.map Ev.dc).sum
def EvOk (S : SetD) : Ev → Prop
  | .bgn l => l ∈ S.ls
  | .fin l => l ∈ S.ls
  | .dne w => w ∈ S.ws
def EvAt (K : PySem.W.Frag) (H : Hp) (v : V) (e : Ev) : Prop := ∃ t, v = .ref t ∧ SqT K H t [.str e.word, .str e.name]
theorem EvAt.up {K : PySem.W.Frag} {H H' : Hp} {v : V} {r : Ev} (e : Same H H') (h : EvAt K H v r) : EvAt K H' v r := h.elim fun a h => ⟨a, h.1, Same.tup e h.2⟩
structure CallOk (S : SetD) (c : CallD) : Prop where
  ln : c.line ∈ S.ls
  st : ∃ n, c.line.steps[c.step]? = some (.run n) ∧ 0 ≤ c.ticks ∧ c.ticks < n
structure Good (S : SetD) (s : StD) : Prop where
  calls : ∀ c ∈ s.stack, CallOk S c
  rows : RowsOk S.ws s.rows
structure Rel (S : SetD) (s s' : StD) (evs : List Ev) (d0 d2 d3 : Int) (k : Nat) : Prop where
  good : Good S s'
  ev : ∀ e ∈ evs, EvOk S e
  due : due s'.stack + ecost evs = due s.stack + d0
  rs : rsum s'.rows + dcost evs = rsum s.rows + d2
  h0 : s'.c0 = s.c0 + d0
  h1 : s'.c1 = s.c1
  h2 : s'.c2 = s.c2 + d2
  h3 : s'.c3 = s.c3 + d3
  ln : s'.stack.length ≤ s.stack.length
  rw : s'.rows.length ≤ s.rows.length + 8
  el : evs.length ≤ k
def PostE (K : PySem.W.Frag) (A : Ad) (S : SetD) (K0 : Hp) (M : List (Addr × HO)) (Q : VK) (R : StD → List Ev → Prop) : Prop :=
  ∀ K1 H' p ev evs s', Same K0 K1 → Own K A S K1 H' s' M → K1 p = some (.lst ev) → Paired (EvAt K K1) ev evs → R s' evs → Q (.ref p) H'
def sp_Processor_go_through (K : PySem.W.Frag) : Sp := fun vs H Q _ => ∃ (A : Ad) (S : SetD) (K0 : Hp) (s : StD) (M : List (Addr × HO)) (rest : List CallD) (c : CallD), vs = [.ref A.pr] ∧ Own K A S K0 H s M ∧ s.stack = rest ++ [c] ∧ c.line ∈ S.ls ∧ c.step ≤ c.line.steps.length ∧ c.ticks = 0 ∧ (∀ c' ∈ rest, CallOk S c') ∧ RowsOk S.ws s.rows ∧ s.rows.length ≤ 3900 ∧ s.stack.length ≤ 3900 ∧ AllOk S.ls S.ws ∧
  PostE K A S K0 M Q fun s' evs => Rel S s s' evs 0 0 0 1
def sp_Processor_spend_beside_calls (K : PySem.W.Frag) : Sp := fun vs H Q _ => ∃ (A : Ad) (S : SetD) (K0 : Hp) (s : StD) (M : List (Addr × HO)), vs = [.ref A.pr] ∧ Own K A S K0 H s M ∧ s.stack = [] ∧ RowsOk S.ws s.rows ∧ s.rows.length ≤ 3900 ∧
  PostE K A S K0 M Q fun s' evs => ∃ d2 d3, d2 + d3 = 1 ∧ Rel S s s' evs 0 d2 d3 1
def sp_Processor_spend (K : PySem.W.Frag) : Sp := fun vs H Q _ => ∃ (A : Ad) (S : SetD) (K0 : Hp) (s : StD) (M : List (Addr × HO)), vs = [.ref A.pr] ∧ Own K A S K0 H s M ∧ Good S s ∧ s.rows.length ≤ 3900 ∧ s.stack.length ≤ 3900 ∧
  PostE K A S K0 M Q fun s' evs => ∃ d0 d2 d3, d0 + d2 + d3 = 1 ∧ Rel S s s' evs d0 d2 d3 1
def sp_Processor_go_on (K : PySem.W.Frag) : Sp := sp_Processor_spend K

section
variable {P : Program} {w : World} {K : PySem.W.Frag} {mg : Str → Option Value} {base : Heap}

abbrev N_Processor_lets_by : List Str := ["self", "line", "floor"]
theorem sc_Processor_lets_by : FnScope N_Processor_lets_by ["self", "line"] (C8.fnScope s_Processor_lets_by) := C8.fnScope_by (by decide +kernel)
theorem ok_Processor_lets_by {fd : FuncData} (T : Txt K mg) (F : FunD K "_lets_by" "Processor._lets_by" (C8.fnArgs s_Processor_lets_by) (C8.fnBody s_Processor_lets_by) (C8.fnScope s_Processor_lets_by) [] [] (He.ma K (aC "Processor" K) "_lets_by") fd) (c_getitem : C8.Met P w K mg base 2 (aC "Setup" K) "__getitem__" (sp_Setup_getitem K) []) :
    C8.Met P w K mg base 4 (aC "Processor" K) "_lets_by" (sp_Processor_lets_by K) [] := by
  refine C8.met0 T.cl_Processor T.m_Processor_lets_by (fun_c8 F) (F.bindsN fun _ _ _ _ _ _ us hl => match us, hl with | [_, _], _ => rfl) sc_Processor_lets_by (fun vs H Q E h => ?_) (fun cdv A outer s H vs Q E hr h => ?_)
  · obtain ⟨_, _, _, _, _, _, rfl, _⟩ := h
    rfl
  · have nd := sc_Processor_lets_by.nd
    have hu := hu_of hr
    obtain ⟨A, S, K0, s, M, l, rfl, ow, hl, hc, q⟩ := h
    refine ⟨_, (pss_cons (ps_set (i := 2) nd rfl (Or.inl rfl) (pe_fld (pv 0) rfl))
      (pss_cons (ps_if (pt_truth (pe_fld (pv 0) rfl) (by intro _; rfl)) (pss_one (ps_set (i := 2) nd rfl (Or.inl rfl) (pe_callB (call_max2 rfl) (by rfl) T.n_max (by decide +kernel) (pa_cons (pv 2) (pa_cons (pe_ix ix_tup (C_ix T.m_Setup_getitem T.i_getitem c_getitem hr (by decide) (pe_fld (pv 0) rfl) (pe_ix ix_tup (pe_ix ix_list (pe_fld (pv 0) rfl) (pe_un un_neg pe_int) (fun _ _ => rfl)) pe_int (fun _ _ => rfl))) pe_int (fun _ _ => rfl)) pa_nil))))) pss_nil)
      (pss_one (ps_ret (pe_cmpR op_gt (pe_ix ix_tup (C_ix T.m_Setup_getitem T.i_getitem c_getitem hr (by decide) (pe_fld (pv 0) rfl) (pv 1)) pe_int (fun _ _ => rfl)) (pv 2) (nomark _)))))), ?_⟩
    obtain ⟨sv, rv, h1, h2, sp⟩ := ow.ex
    have hpr := sp.c2
    obtain ⟨dx2, _, _, _, _, _, h3, _⟩ := ow.fb.su.ex
    refine ⟨_, rfl, _, _, _, _, _, rfl, hpr, T.cl_Processor, T.t_Processor_bar, rfl, ?_⟩
    rcases List.eq_nil_or_concat s.stack with e1 | ⟨rest, c, e1⟩
    · rw [e1] at h1
      cases h1
      refine ⟨_, rfl, _, _, _, _, _, rfl, hpr, T.cl_Processor, T.t_Processor_stack, rfl, false, .inl ⟨_, l_of sp.c3, rfl⟩, iteF ?_⟩
      refine ⟨_, rfl, _, _, _, _, _, rfl, hpr, T.cl_Processor, T.t_Processor_setup, rfl, _, rfl, A.su, dx2, _, rfl, sp.ext _ _ h3, A.su, S, l, K0, rfl, ow.fb.su, sp.ext, ow.fb.ok, hl, fun v hv => ?_⟩
      obtain ⟨a, g1, hs1, rfl, h5, h6, h7⟩ := hv
      exact ⟨_, _, _, _, rfl, rfl, Same.tup sp.ext h5, rfl, _, rfl, _, _, rfl, rfl, q _⟩
    · rw [List.concat_eq_append] at e1
      have h1' := h1
      rw [e1] at h1'
      obtain ⟨sv', v, e2, h4, t, rfl, ht⟩ := psnoc h1'
      have hlc := hc c (by rw [e1]; simp)
      have hc3 := sp.c3
      rw [e2] at hc3
      refine ⟨_, rfl, _, _, _, _, _, rfl, hpr, T.cl_Processor, T.t_Processor_stack, rfl, true, .inl ⟨_, l_of sp.c3, by rw [e2]; simp⟩, iteT ?_⟩
      refine ⟨_, rfl, _, rfl, _, _, _, _, _, rfl, hpr, T.cl_Processor, T.t_Processor_setup, rfl, _, rfl, _, _, _, _, _, rfl, hpr, T.cl_Processor, T.t_Processor_stack, rfl, _, rfl, _, _, _, _, rfl, rfl, l_of hc3, atIm, _, _, _, _, rfl, rfl, Same.tup sp.ext ht, rfl, A.su, dx2, _, rfl, sp.ext _ _ h3, A.su, S, c.line, K0, rfl, ow.fb.su, sp.ext, ow.fb.ok, hlc, fun v hv => ?_⟩
      obtain ⟨a, g1, hs1, rfl, h5, h6, h7⟩ := hv
      refine ⟨_, _, _, _, rfl, rfl, Same.tup sp.ext h5, rfl, _, _, rfl, ?_⟩
      refine ⟨_, rfl, _, _, _, _, _, rfl, hpr, T.cl_Processor, T.t_Processor_setup, rfl, _, rfl, A.su, dx2, _, rfl, sp.ext _ _ h3, A.su, S, l, K0, rfl, ow.fb.su, sp.ext, ow.fb.ok, hl, fun v hv => ?_⟩
      obtain ⟨a, g1, hs1, rfl, h5, h6, h7⟩ := hv
      exact ⟨_, _, _, _, rfl, rfl, Same.tup sp.ext h5, rfl, _, rfl, _, _, rfl, rfl, q _⟩
abbrev N_Processor_go_through : List Str := ["self", "line", "step", "ticks", "kept", "handler"]
theorem sc_Processor_go_through : FnScope N_Processor_go_through ["self"] (C8.fnScope s_Processor_go_through) := C8.fnScope_by (by decide +kernel)
theorem ok_Processor_go_through {fd : FuncData} (T : Txt K mg) (F : FunD K "_go_through" "Processor._go_through" (C8.fnArgs s_Processor_go_through) (C8.fnBody s_Processor_go_through) (C8.fnScope s_Processor_go_through) [] [] (He.ma K (aC "Processor" K) "_go_through") fd) (c_getitem : C8.Met P w K mg base 2 (aC "Setup" K) "__getitem__" (sp_Setup_getitem K) []) (c_takes_no_tick : C8.Met P w K mg base 1 (aC "Processor" K) "_takes_no_tick" (sp_Processor_takes_no_tick K) []) (c_act : C8.Met P w K mg base 2 (aC "Processor" K) "_act" (sp_Processor_act K) []) (c_end : C8.Met P w K mg base 1 (aC "Board" K) "end" (sp_Board_end K) []) :
    C8.Met P w K mg base 4 (aC "Processor" K) "_go_through" (sp_Processor_go_through K) [] := by
  refine C8.met0 T.cl_Processor T.m_Processor_go_through (fun_c8 F) (F.bindsN fun _ _ _ _ _ _ us hl => match us, hl with | [_], _ => rfl) sc_Processor_go_through (fun vs H Q E h => ?_) (fun cdv A outer s H vs Q E hr h => ?_)
  · obtain ⟨_, _, _, _, _, _, _, rfl, _⟩ := h
    rfl
  · have nd := sc_Processor_go_through.nd
    have hu := hu_of hr
    obtain ⟨A, S, K0, s, M, rest, c, rfl, ow, hst, hl, hcs, hct, hrest, hrows, hrl, hsl, hall, q⟩ := h
    refine ⟨_, (pss_cons (ps_asg (pe_bm0 PySem.F.plainAttrs_list PySem.F.slot_list_pop PySem.F.type_list_pop mt_pop (pe_fld (pv 0) rfl)) (pg_tup rfl (pgs_cons (pg_name (i := 1) nd rfl (Or.inl rfl)) (pgs_cons (pg_name (i := 2) nd rfl (Or.inl rfl)) (pgs_cons (pg_name (i := 3) nd rfl (Or.inl rfl)) (pgs_cons (pg_name (i := 4) nd rfl (Or.inl rfl)) pgs_nil))))))
      (pss_cons (ps_set (i := 5) nd rfl (Or.inl rfl) (pe_ix ix_tup (C_ix T.m_Setup_getitem T.i_getitem c_getitem hr (by decide) (pe_fld (pv 0) rfl) (pv 1)) pe_int (fun _ _ => rfl)))
      (pss_cons (ps_while PassesOwn.never (PW.pt (pw_and (pt_cmpR op_lt (pv 2) (pe_callB call_len_seq (by rfl) T.n_len (by decide +kernel) (pa_cons (pv 5) pa_nil)) (nomark _)) (pw_and1 (pt_val (C8.pe_mt c_takes_no_tick hr (by decide) (pv 0) (pa_cons (pe_ix ix_tup (pv 5) (pv 2) (fun _ _ => rfl)) pa_nil)))))) (pss_cons (ps_expr (C8.pe_mt c_act hr (by decide) (pv 0) (pa_cons (pe_ix ix_tup (pv 5) (pv 2) (fun _ _ => rfl)) pa_nil)))
      (pss_one (ps_aug (i := 2) nd rfl (Or.inl rfl) pe_int ip_add))))
      (pss_cons (ps_if (pt_cmpR op_lt (pv 2) (pe_callB call_len_seq (by rfl) T.n_len (by decide +kernel) (pa_cons (pv 5) pa_nil)) (nomark _)) (pss_cons (ps_expr (pe_bm PySem.F.plainAttrs_list PySem.F.slot_list_append PySem.F.type_list_append mt_append (pe_fld (pv 0) rfl) (pa_cons (pe_tup (pa_cons (pv 1) (pa_cons (pv 2) (pa_cons (pv 3) (pa_cons (pv 4) pa_nil))))) pa_nil)))
      (pss_one (ps_ret (pe_lst pa_nil)))) pss_nil)
      (pss_cons (ps_fld (pv 0) (pv 4) rfl)
      (pss_cons (ps_expr (C8.pe_mt c_end hr (by decide) (pe_fld (pv 0) rfl) (pa_cons (pv 1) pa_nil)))
      (pss_one (ps_ret (pe_lst (pa_cons (pe_tup (pa_cons pe_str (pa_cons (pv 1) pa_nil))) pa_nil)))))))))), ?_⟩
    obtain ⟨sv, rv, h1, h2, sp⟩ := ow.ex
    have hpr := sp.c2
    obtain ⟨dx2, _, _, _, _, _, h3, _⟩ := ow.fb.su.ex
    rw [hst] at h1
    obtain ⟨sv', v, e2, h4, t, rfl, ht⟩ := psnoc h1
    have hc3 := sp.c3
    rw [e2] at hc3
    have hlast : (sv' ++ [V.ref t])[(sv' ++ [V.ref t]).length - 1]? = some (V.ref t) := by simp
    refine ⟨_, rfl, _, _, _, _, _, rfl, hpr, T.cl_Processor, T.t_Processor_stack, rfl, .inl ⟨rfl, _, .inl (.inl hc3)⟩, _, _, _, rfl, rfl, hc3, hlast, ?_⟩
    rw [List.dropLast_concat]
    have sp1 := sp.put3 (y := .lst sv')
    have ow1 : Own K A S K0 (upd H A.st (.lst sv')) { s with stack := rest } M := ow.mk2 (s := { s with stack := rest }) (Same.refl K0) ⟨sv', rv, h4, h2, sp1⟩
    have hpr1 := sp1.c2
    refine ⟨_, _, rfl, Same.tup sp1.ext ht, rfl, _, _, rfl, _, _, rfl, _, _, rfl, _, _, rfl, rfl, ?_⟩
    refine ⟨_, rfl, _, _, _, _, _, rfl, hpr1, T.cl_Processor, T.t_Processor_setup, rfl, _, rfl, A.su, dx2, _, rfl, sp1.ext _ _ h3, A.su, S, c.line, K0, rfl, ow.fb.su, sp1.ext, ow.fb.ok, hl, fun v hv => ?_⟩
    obtain ⟨a, g1, hs1, rfl, h5, h6, h7⟩ := hv
    have hlen := h7.length
    refine ⟨_, _, _, _, rfl, rfl, Same.tup sp1.ext h5, rfl, ?_⟩
    refine ⟨fun m σ H' => ∃ j K' rows', m = c.line.steps.length - j ∧ c.step ≤ j ∧ j ≤ c.line.steps.length ∧ σ = [some (.ref A.pr), some (.str c.line.name), some (.int (j : Nat)), some (.int c.ticks), some (.int c.kept), some (.ref g1)] ∧ Same K0 K' ∧ Own K A S K' H' { s with stack := rest, rows := rows' } M ∧ RowsOk S.ws rows' ∧ rsum rows' = rsum s.rows ∧ rows'.length ≤ s.rows.length + (j - c.step) ∧ befS c.line j = befS c.line c.step, ⟨_, c.step, K0, s.rows, rfl, Nat.le_refl _, hcs, rfl, Same.refl K0, ow1, hrows, rfl, by omega, rfl⟩, ?_⟩
    rintro m σ H1 ⟨j, K1, rows1, rfl, hj1, hj2, rfl, gg, ow2, ro2, rs2, rl2, bf2⟩
    obtain ⟨sv2, rv2, k1, k2, sp2⟩ := ow2.ex
    have l8 := (ow.fb.ok.ok.ok c.line hl).s8
    have hh := Same.tup (Same.tr gg sp2.ext) h6
    have hpr2 := sp2.c2
    have inv := fun (j' : Nat) (σ' : L2.St) (H' : Hp) => ∃ K' rows', σ' = [some (.ref A.pr), some (.str c.line.name), some (.int (j' : Nat)), some (.int c.ticks), some (.int c.kept), some (.ref g1)] ∧ Same K0 K' ∧ Own K A S K' H' { s with stack := rest, rows := rows' } M ∧ RowsOk S.ws rows' ∧ rsum rows' = rsum s.rows ∧ rows'.length ≤ s.rows.length + (j' - c.step) ∧ befS c.line j' = befS c.line c.step
    rcases Nat.lt_or_ge j c.line.steps.length with hj | hj
    · have hstj : c.line.steps[j]? = some c.line.steps[j] := List.getElem?_eq_getElem hj
      have hsok := hall c.line hl _ (List.mem_of_getElem? hstj)
      obtain ⟨x, hx, hx2⟩ := pgetr h7 hstj
      have hx1 := StepAt.up gg hx2
      have htst : decide ((j : Int) < (hs1.length : Nat)) = true := decide_eq_true (by omega)
      refine ⟨_, rfl, _, rfl, _, _, rfl, .inr hh, _, _, rfl, rfl, true, congrArg V.bl htst, iteT ?_⟩
      refine ⟨_, rfl, A.pr, A.dp, _, rfl, hpr2, rfl, _, rfl, _, rfl, _, _, _, _, rfl, rfl, hh, atIn hx, A.pr, x, _, rfl, StepAt.up sp2.ext hx1, _, rfl, ?_⟩
      cases est : c.line.steps[j] with
      | later n =>
        rw [est] at hx1 hsok hstj
        refine iteT ⟨fun σ' H' => ∃ K' rows', σ' = [some (.ref A.pr), some (.str c.line.name), some (.int ((j + 1 : Nat))), some (.int c.ticks), some (.int c.kept), some (.ref g1)] ∧ Same K0 K' ∧ Own K A S K' H' { s with stack := rest, rows := rows' } M ∧ RowsOk S.ws rows' ∧ rsum rows' = rsum s.rows ∧ rows'.length ≤ s.rows.length + (j + 1 - c.step) ∧ befS c.line (j + 1) = befS c.line c.step, ?_, ?_⟩
        · rintro σ' H' ⟨K', rows', e1, e2, e3, e4, e5, e6, e7⟩
          exact ⟨c.line.steps.length - (j + 1), by omega, j + 1, K', rows', rfl, by omega, by omega, e1, e2, e3, e4, e5, e6, e7⟩
        · refine ⟨_, rfl, A.pr, A.dp, _, rfl, hpr2, rfl, _, rfl, _, rfl, _, _, _, _, rfl, rfl, hh, atIn hx, A, S, K1, _, M, x, n, rfl, hx1, hsok, ow2, ro2, (show rows1.length ≤ 4000 by omega), fun K2 H2 rows2 g2 ow3 ro3 rs3 rl3 => ?_⟩
          refine ⟨_, rfl, _, _, rfl, rfl, K2, rows2, by simp, Same.tr gg g2, ow3, ro3, by rw [rs3]; exact rs2, ?_, by rw [befS_later hstj]; exact bf2⟩
          simp at rl3
          omega
      | run n =>
        rw [est] at hx1 hsok hstj
        refine iteF ?_
        refine ⟨_, rfl, _, rfl, _, _, rfl, .inr hh, _, _, rfl, rfl, true, congrArg V.bl htst, iteT ?_⟩
        refine ⟨_, rfl, _, _, _, _, _, rfl, hpr2, T.cl_Processor, T.t_Processor_stack, rfl, .inl ⟨rfl, _, .inl (.inl sp2.c3)⟩, _, rfl, _, rfl, _, rfl, _, rfl, small8 (by simp), fun t2 ht2 => ?_⟩
        have sp3 := sp2.keep (o := .tup [.str c.line.name, .int (j : Nat), .int c.ticks, .int c.kept]) ht2
        have g3 := sp2.newk (o := .tup [.str c.line.name, .int (j : Nat), .int c.ticks, .int c.kept]) ht2
        refine ⟨_, _, _, rfl, rfl, sp3.c3, sm (m := 4000) (by have hk : sv2.length = rest.length := k1.length; rw [hst] at hsl; simp at hsl; omega) (by decide), ?_⟩
        have sp4 := sp3.put3 (y := .lst (sv2 ++ [.ref t2]))
        refine ⟨Nat.zero_le _, fun p hp => ?_⟩
        have sp5 := sp4.keep (o := .lst []) hp
        have g5 := sp4.newk (o := .lst []) hp
        have gA := Same.tr gg (Same.tr g3 g5)
        have ow4 : Own K A S _ _ { s with stack := rest ++ [⟨c.line, j, c.ticks, c.kept⟩], rows := rows1 } M := ow2.mk2 (s := { s with stack := rest ++ [⟨c.line, j, c.ticks, c.kept⟩], rows := rows1 }) (Same.tr g3 g5) ⟨sv2 ++ [.ref t2], rv2, Paired.snoc (k1.mono fun _ _ z => CallAt.up (Same.tr g3 g5) z) ⟨t2, rfl, t_of (g5 _ _ upd_same)⟩, k2.mono fun _ _ z => RowAt.up (Same.tr g3 g5) z, sp5⟩
        refine q _ _ p [] [] _ gA ow4 upd_same .nil ⟨⟨fun c' m => ?_, ro2⟩, fun _ m => (nomatch m), ?_, ?_, by simp, rfl, by simp, by simp, ?_, ?_, by simp⟩
        · rcases List.mem_append.mp m with m | m
          · exact hrest c' m
          · obtain rfl := List.mem_singleton.mp m
            exact ⟨hl, n, hstj, by simp [hct], by simp [hct]; have := hsok.1; omega⟩
        · show due (rest ++ [_]) + ecost [] = _
          rw [hst, due_snoc, due_snoc]
          simp [bef, ecost, hct, bf2]
        · show rsum rows1 + dcost [] = _
          simp [dcost, rs2]
        · simp [hst]
        · show rows1.length ≤ _
          omega
    · have htst : decide ((j : Int) < (hs1.length : Nat)) = false := decide_eq_false (by omega)
      refine ⟨_, rfl, _, rfl, _, _, rfl, .inr hh, _, _, rfl, rfl, false, congrArg V.bl htst, iteF ?_⟩
      refine ⟨_, rfl, _, rfl, _, _, rfl, .inr hh, _, _, rfl, rfl, false, congrArg V.bl htst, iteF ?_⟩
      refine ⟨_, rfl, _, rfl, _, _, _, _, rfl, hpr2, T.cl_Processor, T.t_Processor_bar, (by simp), ?_⟩
      have sp3 := sp2.put2 (y := prI K A c.kept)
      obtain ⟨db, d0, fl0, mg0, hbo, _⟩ := (BoardAt.up (Same.tr gg sp3.ext) ow.fb).ex
      have hpr3 := sp3.c2
      refine ⟨_, rfl, _, _, _, _, _, rfl, hpr3, T.cl_Processor, T.t_Processor_board, rfl, A.bo, db, _, rfl, hbo, rfl, _, rfl, A.bo, A.su, A.r, A.u, S, c.line, K1, s.und, _, rfl, ow2.fb, hl, sp3.swap, fun H2 sp4 => ?_⟩
      have sp5 := sp4.swap
      refine ⟨_, rfl, small8 (by simp), fun t2 ht2 => ?_⟩
      have sp6 := sp5.keep (o := .tup [.str "end", .str c.line.name]) ht2
      have g6 := sp5.newk (o := .tup [.str "end", .str c.line.name]) ht2
      refine ⟨small8 (by simp), fun p hp => ?_⟩
      have sp7 := sp6.keep (o := .lst [.ref t2]) hp
      have g7 := sp6.newk (o := .lst [.ref t2]) hp
      have g67 := Same.tr g6 g7
      have gA := Same.tr gg g67
      have ow4 : Own K A S _ _ { s with stack := rest, rows := rows1, bar := c.kept, und := fset s.und c.line.name false } M := ow2.mk2 (s := { s with stack := rest, rows := rows1, bar := c.kept, und := fset s.und c.line.name false }) g67 ⟨sv2, rv2, k1.mono fun _ _ z => CallAt.up g67 z, k2.mono fun _ _ z => RowAt.up g67 z, sp7⟩
      refine q _ _ p [.ref t2] [.fin c.line] _ gA ow4 upd_same (.cons ⟨t2, rfl, t_of (g7 _ _ upd_same)⟩ .nil) ⟨⟨hrest, ro2⟩, fun e m => ?_, ?_, ?_, by simp, rfl, by simp, by simp, ?_, ?_, by simp⟩
      · obtain rfl := List.mem_singleton.mp m
        exact hl
      · show due rest + ecost [.fin c.line] = _
        rw [hst, due_snoc]
        rw [befS_all hj] at bf2
        simp [bef, ecost, Ev.ec, hct, bf2]
      · show rsum rows1 + dcost [.fin c.line] = _
        simp [dcost, Ev.dc, rs2]
      · simp [hst]
      · show rows1.length ≤ _
        omega
end
end Cb

namespace Cb
open PySem PySem.Spec PyProof.Rows L2

section
variable {P : Program} {w : World} {K : PySem.W.Frag} {mg : Str → Option Value} {base : Heap}

abbrev N_Processor_spend_beside_calls : List Str := ["self", "work"]
theorem sc_Processor_spend_beside_calls : FnScope N_Processor_spend_beside_calls ["self"] (C8.fnScope s_Processor_spend_beside_calls) := C8.fnScope_by (by decide +kernel)
theorem ok_Processor_spend_beside_calls {fd : FuncData} (T : Txt K mg) (F : FunD K "_spend_beside_calls" "Processor._spend_beside_calls" (C8.fnArgs s_Processor_spend_beside_calls) (C8.fnBody s_Processor_spend_beside_calls) (C8.fnScope s_Processor_spend_beside_calls) [] [] (He.ma K (aC "Processor" K) "_spend_beside_calls") fd) (c_is_empty : C8.Met P w K mg base 1 (aC "WorkQueue" K) "is_empty" (sp_WorkQueue_is_empty K) []) (c_jspend : C8.Met P w K mg base 1 (aC "WorkQueue" K) "spend" (sp_WorkQueue_spend K) []) :
    C8.Met P w K mg base 2 (aC "Processor" K) "_spend_beside_calls" (sp_Processor_spend_beside_calls K) [] := by
  refine C8.met0 T.cl_Processor T.m_Processor_spend_beside_calls (fun_c8 F) (F.bindsN fun _ _ _ _ _ _ us hl => match us, hl with | [_], _ => rfl) sc_Processor_spend_beside_calls (fun vs H Q E h => ?_) (fun cdv A outer s H vs Q E hr h => ?_)
  · obtain ⟨_, _, _, _, _, rfl, _⟩ := h
    rfl
  · have nd := sc_Processor_spend_beside_calls.nd
    have hu := hu_of hr
    obtain ⟨A, S, K0, s, M, rfl, ow, hst, hro, hrl, q⟩ := h
    refine ⟨_, (pss_cons (ps_if (pt_val (C8.pe_mt0 c_is_empty hr (by decide) (pe_fld (pv 0) rfl))) (pss_cons (ps_augS (pe_fld (pv 0) rfl) (C8.pe_gc rfl T.k_IDLE) get_list pe_int ip_add set_list)
      (pss_one (ps_ret (pe_lst pa_nil)))) pss_nil)
      (pss_cons (ps_augS (pe_fld (pv 0) rfl) (C8.pe_gc rfl T.k_WORKED) get_list pe_int ip_add set_list)
      (pss_cons (ps_set (i := 1) nd rfl (Or.inl rfl) (C8.pe_mt0 c_jspend hr (by decide) (pe_fld (pv 0) rfl)))
      (pss_one (ps_ret (pe_ifExp (pt_cmpR op_isN (pv 1) pe_non (nomark _)) (pe_lst pa_nil) (pe_lst (pa_cons (pe_tup (pa_cons pe_str (pa_cons (pv 1) pa_nil))) pa_nil)))))))), ?_⟩
    obtain ⟨sv, rv, h1, h2, sp⟩ := ow.ex
    have hpr := sp.c2
    obtain ⟨dj, rk, ln, j1, _⟩ := (JobsAt.up sp.ext ow.fj).ex
    refine ⟨_, rfl, _, _, _, _, _, rfl, hpr, T.cl_Processor, T.t_Processor_jobs, rfl, A.jo, dj, _, rfl, j1, rfl, A.jo, A.ro, S.ws, rv, rfl, JobsAt.up sp.ext ow.fj, sp.c4, rv.isEmpty, rfl, ?_⟩
    cases hrv : s.rows with
    | nil =>
      have h2' := h2
      rw [hrv] at h2'
      cases h2'
      refine iteT ?_
      refine ⟨_, rfl, _, _, _, _, _, rfl, hpr, T.cl_Processor, T.t_Processor_counts, rfl, _, _, 3, _, rfl, rfl, l_of sp.c5, rfl, _, _, rfl, rfl, ?_⟩
      refine ⟨_, _, _, 3, rfl, rfl, sp.c5, rfl, ?_⟩
      have sp1 := sp.put5 (y := .lst [.int s.c0, .int s.c1, .int s.c2, .int (s.c3 + 1)])
      refine ⟨Nat.zero_le _, fun p hp => ?_⟩
      have sp2 := sp1.keep (o := .lst []) hp
      have g := sp1.newk (o := .lst []) hp
      have ow2 : Own K A S _ _ { s with c3 := s.c3 + 1 } M := ow.mk2 (s := { s with c3 := s.c3 + 1 }) g ⟨sv, [], h1.mono fun _ _ z => CallAt.up g z, h2.mono fun _ _ z => RowAt.up g z, sp2⟩
      exact q _ _ p [] [] _ g ow2 upd_same .nil ⟨0, 1, by omega, ⟨⟨fun c m => (by rw [hst] at m; cases m), hro⟩, (fun _ m => nomatch m), by simp [ecost], by simp [dcost], by simp, rfl, by simp, by simp, Nat.le_refl _, by simp, by simp⟩⟩
    | cons r rows =>
      obtain ⟨n, t⟩ := r
      have h2' := h2
      rw [hrv] at h2' hro hrl
      have hne : rv.isEmpty = false := by cases h2' with | cons _ _ => rfl
      rw [hne]
      refine iteF ?_
      refine ⟨_, rfl, _, _, _, _, _, rfl, hpr, T.cl_Processor, T.t_Processor_counts, rfl, _, _, 2, _, rfl, rfl, l_of sp.c5, rfl, _, _, rfl, rfl, ?_⟩
      refine ⟨_, _, _, 2, rfl, rfl, sp.c5, rfl, ?_⟩
      have sp1 := sp.put5 (y := .lst [.int s.c0, .int s.c1, .int (s.c2 + 1), .int s.c3])
      have hpr1 := sp1.c2
      obtain ⟨dj1, rk1, ln1, j11, _⟩ := (JobsAt.up sp1.ext ow.fj).ex
      refine ⟨_, rfl, _, _, _, _, _, rfl, hpr1, T.cl_Processor, T.t_Processor_jobs, rfl, A.jo, dj1, _, rfl, j11, rfl, A.jo, A.ro, S.ws, rv, n, t, rows, K0, _, rfl, ow.fj, hro, h2', by simp at hrl; omega, sp1.up4, fun K1 H1 rv1 g1 hp1 hro1 sp2 => ?_, fun H1 rv1 w hw ew et hp1 hro1 sp2 => ?_⟩
      · refine ⟨_, rfl, rfl, true, rfl, iteT ⟨Nat.zero_le _, fun p hp => ?_⟩⟩
        have sp3 := sp2.dn4.keep (o := .lst []) hp
        have g2 := sp2.dn4.newk (o := .lst []) hp
        have g := Same.tr g1 g2
        have ow2 : Own K A S _ _ { s with c2 := s.c2 + 1, rows := (n, t + 1) :: rows } M := ow.mk2 (s := { s with c2 := s.c2 + 1, rows := (n, t + 1) :: rows }) g ⟨sv, rv1, h1.mono fun _ _ z => CallAt.up g z, hp1.mono fun _ _ z => RowAt.up g2 z, sp3⟩
        exact q _ _ p [] [] _ g ow2 upd_same .nil ⟨1, 0, by omega, ⟨⟨fun c m => (by rw [hst] at m; cases m), hro1⟩, (fun _ m => nomatch m), by simp [ecost], by simp [dcost, rsum, hrv]; omega, by simp, rfl, by simp, by simp, Nat.le_refl _, by simp [hrv], by simp⟩⟩
      · refine ⟨_, rfl, rfl, false, rfl, iteF ⟨_, rfl, small8 (by simp), fun t2 ht2 => ?_⟩⟩
        have sp3 := sp2.dn4.keep (o := .tup [.str "done", .str n]) ht2
        have g2 := sp2.dn4.newk (o := .tup [.str "done", .str n]) ht2
        refine ⟨small8 (by simp), fun p hp => ?_⟩
        have sp4 := sp3.keep (o := .lst [.ref t2]) hp
        have g3 := sp3.newk (o := .lst [.ref t2]) hp
        have g := Same.tr g2 g3
        have ow2 : Own K A S _ _ { s with c2 := s.c2 + 1, rows := rows } M := ow.mk2 (s := { s with c2 := s.c2 + 1, rows := rows }) g ⟨sv, rv1, h1.mono fun _ _ z => CallAt.up g z, hp1.mono fun _ _ z => RowAt.up g z, sp4⟩
        subst ew
        exact q _ _ p [.ref t2] [.dne w] _ g ow2 upd_same (.cons ⟨t2, rfl, t_of (g3 _ _ upd_same)⟩ .nil) ⟨1, 0, by omega, ⟨⟨fun c m => (by rw [hst] at m; cases m), hro1⟩, (fun e m => by obtain rfl := List.mem_singleton.mp m; exact hw), by simp [ecost, Ev.ec], by simp [dcost, Ev.dc, rsum, hrv]; omega, by simp, rfl, by simp, by simp, Nat.le_refl _, by simp [hrv]; omega, by simp⟩⟩
abbrev N_Processor_spend : List Str := ["self", "line", "step", "ticks", "kept", "word", "what"]
theorem sc_Processor_spend : FnScope N_Processor_spend ["self"] (C8.fnScope s_Processor_spend) := C8.fnScope_by (by decide +kernel)
theorem ok_Processor_spend {fd : FuncData} (T : Txt K mg) (F : FunD K "_spend" "Processor._spend" (C8.fnArgs s_Processor_spend) (C8.fnBody s_Processor_spend) (C8.fnScope s_Processor_spend) [] [] (He.ma K (aC "Processor" K) "_spend") fd) (c_spend_beside_calls : C8.Met P w K mg base 2 (aC "Processor" K) "_spend_beside_calls" (sp_Processor_spend_beside_calls K) []) (c_present_step : C8.Met P w K mg base 4 (aC "Processor" K) "_present_step" (sp_Processor_present_step K) []) (c_go_through : C8.Met P w K mg base 4 (aC "Processor" K) "_go_through" (sp_Processor_go_through K) []) :
    C8.Met P w K mg base 6 (aC "Processor" K) "_spend" (sp_Processor_spend K) [] := by
  refine C8.met0 T.cl_Processor T.m_Processor_spend (fun_c8 F) (F.bindsN fun _ _ _ _ _ _ us hl => match us, hl with | [_], _ => rfl) sc_Processor_spend (fun vs H Q E h => ?_) (fun cdv A outer s H vs Q E hr h => ?_)
  · obtain ⟨_, _, _, _, _, rfl, _⟩ := h
    rfl
  · have nd := sc_Processor_spend.nd
    have hu := hu_of hr
    obtain ⟨A, S, K0, s, M, rfl, ow, gd, hrl, hsl, q⟩ := h
    refine ⟨_, (pss_cons (ps_if (pt_not (pt_truth (pe_fld (pv 0) rfl) (by intro _; rfl))) (pss_one (ps_ret (C8.pe_mt0 c_spend_beside_calls hr (by decide) (pv 0)))) pss_nil)
      (pss_cons (ps_asg (pe_ix ix_list (pe_fld (pv 0) rfl) (pe_un un_neg pe_int) (fun _ _ => rfl)) (pg_tup rfl (pgs_cons (pg_name (i := 1) nd rfl (Or.inl rfl)) (pgs_cons (pg_name (i := 2) nd rfl (Or.inl rfl)) (pgs_cons (pg_name (i := 3) nd rfl (Or.inl rfl)) (pgs_cons (pg_name (i := 4) nd rfl (Or.inl rfl)) pgs_nil))))))
      (pss_cons (ps_asg (C8.pe_mt0 c_present_step hr (by decide) (pv 0)) (pg_tup rfl (pgs_cons (pg_name (i := 5) nd rfl (Or.inl rfl)) (pgs_cons (pg_name (i := 6) nd rfl (Or.inl rfl)) pgs_nil))))
      (pss_cons (ps_if (pt_cmpR op_eq (pv 5) pe_str (nomark _)) (pss_cons ps_never
      (pss_one (ps_ret (pe_lst pa_nil)))) pss_nil)
      (pss_cons (ps_augS (pe_fld (pv 0) rfl) (C8.pe_gc rfl T.k_CALLED) get_list pe_int ip_add set_list)
      (pss_cons (ps_if (pt_cmpR op_lt (pe_op op_add (pv 3) pe_int) (pv 6) (nomark _)) (pss_cons (ps_asg (pe_tup (pa_cons (pv 1) (pa_cons (pv 2) (pa_cons (pe_op op_add (pv 3) pe_int) (pa_cons (pv 4) pa_nil))))) (pg_sub (pe_fld (pv 0) rfl) (pe_un un_neg pe_int) set_list))
      (pss_one (ps_ret (pe_lst pa_nil)))) pss_nil)
      (pss_cons (ps_asg (pe_tup (pa_cons (pv 1) (pa_cons (pe_op op_add (pv 2) pe_int) (pa_cons pe_int (pa_cons (pv 4) pa_nil))))) (pg_sub (pe_fld (pv 0) rfl) (pe_un un_neg pe_int) set_list))
      (pss_one (ps_ret (C8.pe_mt0 c_go_through hr (by decide) (pv 0))))))))))), ?_⟩
    obtain ⟨sv, rv, h1, h2, sp⟩ := ow.ex
    have hpr := sp.c2
    rcases List.eq_nil_or_concat s.stack with e1 | ⟨rest, c, e1⟩
    · have h1' := h1
      rw [e1] at h1'
      cases h1'
      refine ⟨_, rfl, _, _, _, _, _, rfl, hpr, T.cl_Processor, T.t_Processor_stack, rfl, false, .inl ⟨_, l_of sp.c3, rfl⟩, iteT ?_⟩
      refine ⟨_, rfl, A.pr, A.dp, _, rfl, hpr, rfl, A, S, K0, s, M, rfl, ow, e1, gd.rows, hrl, fun K1 H1 p ev evs s1 g ow1 hp he hR => ?_⟩
      obtain ⟨d2, d3, hd, R⟩ := hR
      exact q K1 H1 p ev evs s1 g ow1 hp he ⟨0, d2, d3, by omega, R⟩
    rw [List.concat_eq_append] at e1
    have h1' := h1
    rw [e1] at h1'
    obtain ⟨sv', v, e2, h4, t, rfl, ht⟩ := psnoc h1'
    have hco := gd.calls c (by rw [e1]; simp)
    obtain ⟨n, hn, hn0, hn1⟩ := hco.st
    have hc3 := sp.c3
    rw [e2] at hc3
    refine ⟨_, rfl, _, _, _, _, _, rfl, hpr, T.cl_Processor, T.t_Processor_stack, rfl, true, .inl ⟨_, l_of hc3, by simp⟩, iteF ?_⟩
    refine ⟨_, rfl, _, _, _, _, _, rfl, hpr, T.cl_Processor, T.t_Processor_stack, rfl, _, rfl, _, _, _, _, rfl, rfl, l_of hc3, atIm, ?_⟩
    refine ⟨_, _, rfl, Same.tup sp.ext ht, rfl, _, _, rfl, _, _, rfl, _, _, rfl, _, _, rfl, rfl, ?_⟩
    refine ⟨_, rfl, A.pr, A.dp, _, rfl, hpr, rfl, A, S, K0, s, M, rest, c, .run n, rfl, ow, e1, hco.ln, hn, fun v H1 g1 hv => ?_⟩
    obtain ⟨a, rfl, ha⟩ := hv
    have sp1 := sp.grow g1
    have hpr1 := sp1.c2
    have hc31 := g1 _ _ hc3
    refine ⟨_, _, rfl, Same.tup sp1.ext ha, rfl, _, _, rfl, _, _, rfl, rfl, ?_⟩
    refine ⟨_, rfl, rfl, false, rfl, iteF ?_⟩
    refine ⟨_, rfl, _, _, _, _, _, rfl, hpr1, T.cl_Processor, T.t_Processor_counts, rfl, _, _, 0, _, rfl, rfl, l_of sp1.c5, rfl, _, _, rfl, rfl, ?_⟩
    refine ⟨_, _, _, 0, rfl, rfl, sp1.c5, rfl, ?_⟩
    have sp2 := sp1.put5 (y := .lst [.int (s.c0 + 1), .int s.c1, .int s.c2, .int s.c3])
    have hpr2 := sp2.c2
    refine ⟨_, rfl, _, _, rfl, rfl, _, rfl, _, _, rfl, rfl, decide (c.ticks + 1 < n), rfl, ?_⟩
    by_cases hlt : c.ticks + 1 < n
    · rw [decide_eq_true hlt]
      refine iteT ⟨_, rfl, _, rfl, _, rfl, _, _, rfl, rfl, _, rfl, small8 (by simp), fun t2 ht2 => ?_⟩
      have sp3 := sp2.keep (o := .tup [.str c.line.name, .int (c.step : Nat), .int (c.ticks + 1), .int c.kept]) ht2
      have g3 := sp2.newk (o := .tup [.str c.line.name, .int (c.step : Nat), .int (c.ticks + 1), .int c.kept]) ht2
      have hpr3 := sp3.c2
      have hc33 := sp3.c3
      rw [e2] at hc33
      refine ⟨_, rfl, _, _, _, _, _, rfl, hpr3, T.cl_Processor, T.t_Processor_stack, rfl, _, rfl, _, _, _, _, rfl, rfl, hc33, ixNm, ?_⟩
      rw [set_last]
      have sp4 := sp3.put3 (y := .lst (sv' ++ [.ref t2]))
      refine ⟨Nat.zero_le _, fun p hp => ?_⟩
      have sp5 := sp4.keep (o := .lst []) hp
      have g5 := sp4.newk (o := .lst []) hp
      have g := Same.tr g3 g5
      have ow4 : Own K A S _ _ { s with c0 := s.c0 + 1, stack := rest ++ [⟨c.line, c.step, c.ticks + 1, c.kept⟩] } M := ow.mk2 (s := { s with c0 := s.c0 + 1, stack := rest ++ [⟨c.line, c.step, c.ticks + 1, c.kept⟩] }) g ⟨sv' ++ [.ref t2], rv, Paired.snoc (h4.mono fun _ _ z => CallAt.up g z) ⟨t2, rfl, t_of (g5 _ _ upd_same)⟩, h2.mono fun _ _ z => RowAt.up g z, sp5⟩
      refine q _ _ p [] [] _ g ow4 upd_same .nil ⟨1, 0, 0, by omega, ⟨⟨fun c' m => ?_, gd.rows⟩, (fun _ m => nomatch m), ?_, by simp [dcost], rfl, rfl, by simp, by simp, by simp [e1], by simp, by simp⟩⟩
      · rcases List.mem_append.mp m with m | m
        · exact gd.calls c' (by rw [e1]; exact List.mem_append_left _ m)
        · obtain rfl := List.mem_singleton.mp m
          exact ⟨hco.ln, n, hn, by simp; omega, hlt⟩
      · show due (rest ++ [_]) + ecost [] = _
        rw [e1, due_snoc, due_snoc]
        simp [bef, ecost]
        omega
    · rw [decide_eq_false hlt]
      refine iteF ?_
      refine ⟨_, rfl, _, rfl, _, _, rfl, rfl, _, rfl, small8 (by simp), fun t2 ht2 => ?_⟩
      have sp3 := sp2.keep (o := .tup [.str c.line.name, .int ((c.step + 1 : Nat)), .int 0, .int c.kept]) ht2
      have g3 := sp2.newk (o := .tup [.str c.line.name, .int ((c.step + 1 : Nat)), .int 0, .int c.kept]) ht2
      have hpr3 := sp3.c2
      have hc33 := sp3.c3
      rw [e2] at hc33
      refine ⟨_, rfl, _, _, _, _, _, rfl, hpr3, T.cl_Processor, T.t_Processor_stack, rfl, _, rfl, _, _, _, _, rfl, rfl, hc33, ixNm, ?_⟩
      rw [set_last]
      have sp4 := sp3.put3 (y := .lst (sv' ++ [.ref t2]))
      have hpr4 := sp4.c2
      have ow4 : Own K A S _ _ { s with c0 := s.c0 + 1, stack := rest ++ [⟨c.line, c.step + 1, 0, c.kept⟩] } M := ow.mk2 (s := { s with c0 := s.c0 + 1, stack := rest ++ [⟨c.line, c.step + 1, 0, c.kept⟩] }) g3 ⟨sv' ++ [.ref t2], rv, Paired.snoc (h4.mono fun _ _ z => CallAt.up g3 z) ⟨t2, rfl, t_of upd_same⟩, h2.mono fun _ _ z => RowAt.up g3 z, sp4⟩
      have hlt2 : c.step < c.line.steps.length := by
        rcases Nat.lt_or_ge c.step c.line.steps.length with z | z
        · exact z
        · rw [List.getElem?_eq_none z] at hn; cases hn
      refine ⟨_, rfl, A.pr, A.dp, _, rfl, hpr4, rfl, A, S, _, _, M, rest, ⟨c.line, c.step + 1, 0, c.kept⟩, rfl, ow4, rfl, hco.ln, hlt2, rfl, fun c' m => gd.calls c' (by rw [e1]; exact List.mem_append_left _ m), gd.rows, hrl, ?_, ow.fb.ok.all, fun K1 H1 p ev evs s1 g ow5 hp he R => ?_⟩
      · rw [e1] at hsl
        simpa using hsl
      · refine q K1 H1 p ev evs s1 (Same.tr g3 g) ow5 hp he ⟨1, 0, 0, by omega, ⟨R.good, R.ev, ?_, R.rs, ?_, R.h1, R.h2, R.h3, ?_, R.rw, R.el⟩⟩
        · have z := R.due
          simp only [due_snoc] at z
          rw [e1, due_snoc]
          have b := befS_run hn
          simp only [bef] at z ⊢
          omega
        · have z := R.h0
          simp at z
          exact z
        · have z := R.ln
          simp at z
          simp [e1]
          omega
end
end Cb

namespace Cb
open PySem PySem.Spec PyProof.Rows L2

structure RelT (S : SetD) (s s' : StD) (evs : List Ev) : Prop where
  good : Good S s'
  ev : ∀ e ∈ evs, EvOk S e
  due : due s'.stack + ecost evs = due s.stack
  rs : rsum s'.rows + dcost evs = rsum s.rows
  h0 : s'.c0 = s.c0
  h1 : s'.c1 = s.c1
  h2 : s'.c2 = s.c2
  h3 : s'.c3 = s.c3
  ln : s'.stack.length ≤ s.stack.length + 1
  rw : s'.rows.length ≤ s.rows.length + 8
  el : evs.length ≤ 2
def sp_Processor_take (K : PySem.W.Frag) : Sp := fun vs H Q _ => ∃ (A : Ad) (S : SetD) (K0 : Hp) (s : StD) (M : List (Addr × HO)) (lp : Addr) (ns : List Str), vs = [.ref A.pr, .ref lp] ∧ Own K A S K0 H s M ∧ Good S s ∧ s.rows.length ≤ 3800 ∧ s.stack.length ≤ 3800 ∧ K0 lp = some (.lst (ns.map V.str)) ∧ (∀ n ∈ ns, n ∈ S.order) ∧
  ∀ K1 H' p ev evs s', Same K0 K1 → Own K A S K1 H' s' ((p, .lst ev) :: M) → Paired (EvAt K K1) ev evs → RelT S s s' evs → Q (.ref p) H'
def C3At (K : PySem.W.Frag) (H : Hp) (v : V) (c : CallD) : Prop := ∃ t, v = .ref t ∧ SqT K H t [.str c.line.name, .int (c.step : Nat), .int c.ticks]
theorem C3At.up {K : PySem.W.Frag} {H H' : Hp} {v : V} {r : CallD} (e : Same H H') (h : C3At K H v r) : C3At K H' v r := h.elim fun a h => ⟨a, h.1, Same.tup e h.2⟩
def sp_Processor_call_rows (K : PySem.W.Frag) : Sp := fun vs H Q _ => ∃ (A : Ad) (S : SetD) (K0 : Hp) (s : StD) (M : List (Addr × HO)), vs = [.ref A.pr] ∧ Own K A S K0 H s M ∧ s.stack.length ≤ 3900 ∧
  ∀ K1 H' p ev, Same K0 K1 → Own K A S K1 H' s M → K1 p = some (.lst ev) → Paired (C3At K K1) ev s.stack → Q (.ref p) H'
def sp_Processor_work_rows (K : PySem.W.Frag) : Sp := fun vs H Q _ => ∃ (A : Ad) (S : SetD) (K0 : Hp) (s : StD) (M : List (Addr × HO)), vs = [.ref A.pr] ∧ Own K A S K0 H s M ∧ s.rows.length ≤ 3900 ∧
  ∀ K1 H' p ev, Same K0 K1 → Own K A S K1 H' s M → K1 p = some (.lst ev) → Paired (RowAt K K1) ev s.rows → Q (.ref p) H'
def sp_Processor_spent_ticks (K : PySem.W.Frag) : Sp := fun vs H Q _ => ∃ (A : Ad) (S : SetD) (K0 : Hp) (s : StD) (M : List (Addr × HO)), vs = [.ref A.pr] ∧ Own K A S K0 H s M ∧
  ∀ K1 H' p, Same K0 K1 → Own K A S K1 H' s M → K1 p = some (.tup [.int s.c0, .int s.c1, .int s.c2, .int s.c3]) → Q (.ref p) H'
def st0 : StD := ⟨no, no, 0, [], [], 0, 0, 0, 0⟩
def sp_Processor_init (K : PySem.W.Frag) : Sp := fun vs H Q _ => ∃ (x dx bo su r u : Addr) (S : SetD) (K0 : Hp) (M : List (Addr × HO)), vs = [.ref x, .ref su, .ref bo] ∧ Sep K0 H ((x, .ins (aC "Processor" K) dx []) :: (r, .dK (bd S.order no)) :: (u, .dK (bd S.order no)) :: M) ∧ BoardAt K K0 bo su S r u ∧
  ∀ K1 H' A, Same K0 K1 → A.pr = x → A.bo = bo → A.su = su → Own K A S K1 H' st0 M → Q .non H'
theorem Sep.obj {K0 H : Hp} {L : List (Addr × HO)} (s : Sep K0 H L) {x dx : Addr} {o o' : HO} (h : H x = none) (h' : H dx = none) (ne : dx ≠ x) : Sep K0 (upd (upd H dx o) x o') ((x, o') :: L) := by
  refine (s.drop h').own ?_
  rw [upd_ne (Ne.symm ne)]
  exact h

section
variable {P : Program} {w : World} {K : PySem.W.Frag} {mg : Str → Option Value} {base : Heap}

abbrev N_Processor_go_on : List Str := ["self", "events"]
theorem sc_Processor_go_on : FnScope N_Processor_go_on ["self"] (C8.fnScope s_Processor_go_on) := C8.fnScope_by (by decide +kernel)
theorem ok_Processor_go_on {fd : FuncData} (T : Txt K mg) (F : FunD K "go_on" "Processor.go_on" (C8.fnArgs s_Processor_go_on) (C8.fnBody s_Processor_go_on) (C8.fnScope s_Processor_go_on) [] [] (He.ma K (aC "Processor" K) "go_on") fd) (c_passes_flag : C8.Met P w K mg base 5 (aC "Processor" K) "_passes_flag" (sp_Processor_passes_flag K) []) (c_pspend : C8.Met P w K mg base 6 (aC "Processor" K) "_spend" (sp_Processor_spend K) []) :
    C8.Met P w K mg base 7 (aC "Processor" K) "go_on" (sp_Processor_go_on K) [] := by
  refine C8.met0 T.cl_Processor T.m_Processor_go_on (fun_c8 F) (F.bindsN fun _ _ _ _ _ _ us hl => match us, hl with | [_], _ => rfl) sc_Processor_go_on (fun vs H Q E h => ?_) (fun cdv A outer s H vs Q E hr h => ?_)
  · obtain ⟨_, _, _, _, _, rfl, _⟩ := h
    rfl
  · have nd := sc_Processor_go_on.nd
    have hu := hu_of hr
    obtain ⟨A, S, K0, s, M, rfl, ow, gd, hrl, hsl, q⟩ := h
    refine ⟨_, (pss_cons (ps_set (i := 1) nd rfl (Or.inl rfl) (pe_lst pa_nil))
      (pss_cons (ps_while PassesOwn.never (pt_val (C8.pe_mt0 c_passes_flag hr (by decide) (pv 0))) (pss_one ps_never))
      (pss_cons (ps_expr (pe_bm PySem.F.plainAttrs_list PySem.F.slot_list_extend PySem.F.type_list_extend mt_extend (pv 1) (pa_cons (C8.pe_mt0 c_pspend hr (by decide) (pv 0)) pa_nil)))
      (pss_one (ps_ret (pv 1)))))), ?_⟩
    refine ⟨Nat.zero_le _, fun p1 hp1 => ?_⟩
    obtain ⟨sv, rv, h1, h2, sp⟩ := ow.ex
    have ow1 : Own K A S K0 _ s ((p1, .lst []) :: M) := ow.mk2 (s := s) (Same.refl K0) ⟨sv, rv, h1, h2, (sp.own (o := .lst []) hp1).dn6⟩
    refine ⟨fun m σ H' => m = 0 ∧ σ = [some (.ref A.pr), some (.ref p1)] ∧ Own K A S K0 H' s ((p1, .lst []) :: M), ⟨0, rfl, rfl, ow1⟩, ?_⟩
    rintro m σ H1 ⟨rfl, rfl, ow2⟩
    obtain ⟨sv2, rv2, k1, k2, sp2⟩ := ow2.ex
    refine ⟨_, rfl, A.pr, A.dp, _, rfl, sp2.c2, rfl, A, S, K0, s, _, rfl, ow2, fun c m => ?_, fun H2 g2 => ⟨_, rfl, iteF ?_⟩⟩
    · obtain ⟨n, hn, _⟩ := (gd.calls c m).st
      exact ⟨(gd.calls c m).ln, _, hn⟩
    have ow3 := ow2.grow g2
    have sp3 := sp2.grow g2
    have hp13 := sp3.up6.c0
    refine ⟨_, rfl, .inl ⟨rfl, _, .inl (.inl hp13)⟩, _, rfl, A.pr, A.dp, _, rfl, sp3.c2, rfl, A, S, K0, s, _, rfl, ow3, gd, hrl, hsl, fun K1 H3 p ev evs s1 g ow4 hp he R => ?_⟩
    obtain ⟨sv4, rv4, m1, m2, sp4⟩ := ow4.ex
    have hlen := he.length
    obtain ⟨d0, d2, d3, hd, R⟩ := R
    have hel := R.el
    refine ⟨_, _, _, _, rfl, rfl, sp4.up6.c0, sp4.ext _ _ hp, Nat.le_of_lt (sm (m := 9) (by simp; omega) (by decide)), ?_⟩
    have sp5 := sp4.up6.put0 (o' := .lst ([] ++ ev))
    have g5 := sp5.new0
    have ow5 : Own K A S _ _ s1 M := ow4.mk2 (s := s1) g5 ⟨sv4, rv4, m1.mono fun _ _ z => CallAt.up g5 z, m2.mono fun _ _ z => RowAt.up g5 z, sp5.freeze⟩
    exact ⟨_, rfl, q _ _ p1 ev evs s1 (Same.tr g g5) ow5 (by rw [List.nil_append]; exact upd_same) (he.mono fun _ _ z => EvAt.up g5 z) ⟨d0, d2, d3, hd, R⟩⟩
abbrev N_Processor_take : List Str := ["self", "lines", "line"]
theorem sc_Processor_take : FnScope N_Processor_take ["self", "lines"] (C8.fnScope s_Processor_take) := C8.fnScope_by (by decide +kernel)
theorem ok_Processor_take {fd : FuncData} (T : Txt K mg) (F : FunD K "take" "Processor.take" (C8.fnArgs s_Processor_take) (C8.fnBody s_Processor_take) (C8.fnScope s_Processor_take) [] [] (He.ma K (aC "Processor" K) "take") fd) (c_lets_by : C8.Met P w K mg base 4 (aC "Processor" K) "_lets_by" (sp_Processor_lets_by K) []) (c_begin : C8.Met P w K mg base 5 (aC "Board" K) "begin" (sp_Board_begin K) []) (c_go_through : C8.Met P w K mg base 4 (aC "Processor" K) "_go_through" (sp_Processor_go_through K) []) :
    C8.Met P w K mg base 6 (aC "Processor" K) "take" (sp_Processor_take K) [] := by
  refine C8.met0 T.cl_Processor T.m_Processor_take (fun_c8 F) (F.bindsN fun _ _ _ _ _ _ us hl => match us, hl with | [_, _], _ => rfl) sc_Processor_take (fun vs H Q E h => ?_) (fun cdv A outer s H vs Q E hr h => ?_)
  · obtain ⟨_, _, _, _, _, _, _, rfl, _⟩ := h
    rfl
  · have nd := sc_Processor_take.nd
    have hu := hu_of hr
    obtain ⟨A, S, K0, s, M, lp, ns, rfl, ow, gd, hrl, hsl, hlp, hns, q⟩ := h
    refine ⟨_, (pss_cons (ps_if (PW.pt (pw_or (pt_not (pt_truth (pv 1) (by intro _; rfl))) (pw_or1 (pt_not (pt_val (C8.pe_mt c_lets_by hr (by decide) (pv 0) (pa_cons (pe_ix ix_list (pv 1) pe_int (fun _ _ => rfl)) pa_nil))))))) (pss_one (ps_ret (pe_lst pa_nil))) pss_nil)
      (pss_cons (ps_set (i := 2) nd rfl (Or.inl rfl) (pe_ix ix_list (pv 1) pe_int (fun _ _ => rfl)))
      (pss_cons (ps_expr (C8.pe_mt c_begin hr (by decide) (pe_fld (pv 0) rfl) (pa_cons (pv 2) pa_nil)))
      (pss_cons (ps_expr (pe_bm PySem.F.plainAttrs_list PySem.F.slot_list_append PySem.F.type_list_append mt_append (pe_fld (pv 0) rfl) (pa_cons (pe_tup (pa_cons (pv 2) (pa_cons pe_int (pa_cons pe_int (pa_cons (pe_fld (pv 0) rfl) pa_nil))))) pa_nil)))
      (pss_one (ps_ret (pe_lst (pa_cons (pe_tup (pa_cons pe_str (pa_cons (pv 2) pa_nil))) (StX.pa_star (C8.pe_mt0 c_go_through hr (by decide) (pv 0)) pa_nil))))))))), ?_⟩
    obtain ⟨sv, rv, h1, h2, sp⟩ := ow.ex
    have hpr := sp.c2
    have hlp1 := sp.ext _ _ hlp
    cases ns with
    | nil =>
      refine ⟨_, rfl, false, .inl ⟨_, l_of hlp1, rfl⟩, iteT ?_⟩
      refine ⟨Nat.zero_le _, fun p hp => ?_⟩
      have ow2 : Own K A S K0 _ s ((p, .lst []) :: M) := ow.mk2 (s := s) (Same.refl K0) ⟨sv, rv, h1, h2, (sp.own (o := .lst []) hp).dn6⟩
      exact q K0 _ p [] [] s (Same.refl K0) ow2 .nil ⟨gd, (fun _ m => nomatch m), by simp [ecost], by simp [dcost], rfl, rfl, rfl, rfl, by omega, by omega, by simp⟩
    | cons n ns =>
    obtain ⟨l, hl, rfl⟩ := ow.fb.ok.line (hns n List.mem_cons_self)
    refine ⟨_, rfl, true, .inl ⟨_, l_of hlp1, rfl⟩, iteF ?_⟩
    refine ⟨_, rfl, A.pr, A.dp, _, rfl, hpr, rfl, _, rfl, _, _, _, _, rfl, rfl, l_of hlp1, atI0, A, S, K0, s, M, l, rfl, ow, hl, fun c m => (gd.calls c m).ln, fun b => ⟨b, rfl, ?_⟩⟩
    cases b with
    | false =>
      refine iteT ?_
      refine ⟨Nat.zero_le _, fun p hp => ?_⟩
      have ow2 : Own K A S K0 _ s ((p, .lst []) :: M) := ow.mk2 (s := s) (Same.refl K0) ⟨sv, rv, h1, h2, (sp.own (o := .lst []) hp).dn6⟩
      exact q K0 _ p [] [] s (Same.refl K0) ow2 .nil ⟨gd, (fun _ m => nomatch m), by simp [ecost], by simp [dcost], rfl, rfl, rfl, rfl, by omega, by omega, by simp⟩
    | true =>
    refine iteF ?_
    refine ⟨_, rfl, _, _, _, _, rfl, rfl, l_of hlp1, atI0, ?_⟩
    obtain ⟨db, d0, fl0, mg0, hbo, _⟩ := (BoardAt.up sp.ext ow.fb).ex
    refine ⟨_, rfl, _, _, _, _, _, rfl, hpr, T.cl_Processor, T.t_Processor_board, rfl, A.bo, db, _, rfl, hbo, rfl, _, rfl, A.bo, A.su, A.r, A.u, S, l, K0, s.rung, s.und, _, rfl, ow.fb, hl, sp, fun H1 sp1 => ?_⟩
    have hpr1 := sp1.c2
    refine ⟨_, rfl, _, _, _, _, _, rfl, hpr1, T.cl_Processor, T.t_Processor_stack, rfl, .inl ⟨rfl, _, .inl (.inl sp1.c3)⟩, _, rfl, _, rfl, _, _, _, _, _, rfl, hpr1, T.cl_Processor, T.t_Processor_bar, rfl, small8 (by simp), fun t2 ht2 => ?_⟩
    have sp2 := sp1.keep (o := .tup [.str l.name, .int 0, .int 0, .int s.bar]) ht2
    have g2 := sp1.newk (o := .tup [.str l.name, .int 0, .int 0, .int s.bar]) ht2
    refine ⟨_, _, _, rfl, rfl, sp2.c3, sm (m := 4000) (by have := h1.length; omega) (by decide), ?_⟩
    have sp3 := sp2.put3 (y := .lst (sv ++ [.ref t2]))
    refine ⟨_, rfl, small8 (by simp), fun t3 ht3 => ?_⟩
    have sp4 := sp3.keep (o := .tup [.str "begin", .str l.name]) ht3
    have g4 := sp3.newk (o := .tup [.str "begin", .str l.name]) ht3
    have g := Same.tr g2 g4
    have ow4 : Own K A S _ _ { s with rung := fset s.rung l.name false, und := fset s.und l.name true, stack := s.stack ++ [⟨l, 0, 0, s.bar⟩] } M := ow.mk2 (s := { s with rung := fset s.rung l.name false, und := fset s.und l.name true, stack := s.stack ++ [⟨l, 0, 0, s.bar⟩] }) g ⟨sv ++ [.ref t2], rv, Paired.snoc (h1.mono fun _ _ z => CallAt.up g z) ⟨t2, rfl, t_of (g4 _ _ upd_same)⟩, h2.mono fun _ _ z => RowAt.up g z, sp4⟩
    refine ⟨_, rfl, A.pr, A.dp, _, rfl, sp4.c2, rfl, A, S, _, _, M, s.stack, ⟨l, 0, 0, s.bar⟩, rfl, ow4, rfl, hl, Nat.zero_le _, rfl, gd.calls, gd.rows, (show s.rows.length ≤ 3900 by omega), (by simp; omega), ow.fb.ok.all, fun K1 H2 p ev evs s1 g5 ow5 hp he R => ?_⟩
    obtain ⟨sv5, rv5, m1, m2, sp5⟩ := ow5.ex
    have hel := R.el
    have hlen := he.length
    refine ⟨p, ev, rfl, .inr (l_of (sp5.ext _ _ hp)), Nat.le_of_lt (sm (m := 9) (by simp; omega) (by decide)), fun z hz => ?_⟩
    have sp6 := sp5.own (o := .lst (.ref t3 :: (ev ++ []))) hz
    have ow6 : Own K A S K1 _ s1 ((z, .lst (.ref t3 :: (ev ++ []))) :: M) := ow5.mk2 (s := s1) (Same.refl K1) ⟨sv5, rv5, m1, m2, sp6.dn6⟩
    refine q K1 _ z _ (.bgn l :: evs) s1 (Same.tr g g5) ow6 ?_ ⟨R.good, fun e m => ?_, ?_, ?_, ?_, R.h1, ?_, ?_, ?_, R.rw, by simp; omega⟩
    · rw [List.append_nil]
      exact .cons ⟨t3, rfl, t_of (g5 _ _ upd_same)⟩ he
    · rcases List.mem_cons.mp m with m | m
      · subst m
        exact hl
      · exact R.ev e m
    · have z := R.due
      simp only [due_snoc] at z
      have e1 : ecost (.bgn l :: evs) = 0 + ecost evs := rfl
      have e2 : bef ⟨l, 0, 0, s.bar⟩ = 0 := rfl
      omega
    · have z := R.rs
      have e1 : dcost (.bgn l :: evs) = 0 + dcost evs := rfl
      simp only at z
      omega
    · have z := R.h0
      simp only at z
      omega
    · have z := R.h2
      simp only at z
      omega
    · have z := R.h3
      simp only at z
      omega
    · have z := R.ln
      simpa using z
end
end Cb

namespace Cb
open PySem PySem.Spec PyProof.Rows L2

theorem perm6 {α : Type} (x co ro st r u : α) (M : List α) : (r :: u :: x :: st :: ro :: co :: M).Perm (x :: co :: ro :: st :: r :: u :: M) :=
  (List.perm_middle (l₁ := [r, u])).trans (.cons x ((List.perm_middle (l₁ := [r, u, st, ro])).trans (.cons co ((List.perm_middle (l₁ := [r, u, st])).trans (.cons ro (List.perm_middle (l₁ := [r, u])))))))

section
variable {P : Program} {w : World} {K : PySem.W.Frag} {mg : Str → Option Value} {base : Heap}

abbrev N_Processor_spent_ticks : List Str := ["self"]
theorem sc_Processor_spent_ticks : FnScope N_Processor_spent_ticks ["self"] (C8.fnScope s_Processor_spent_ticks) := C8.fnScope_by (by decide +kernel)
theorem ok_Processor_spent_ticks {fd : FuncData} (T : Txt K mg) (F : FunD K "spent_ticks" "Processor.spent_ticks" (C8.fnArgs s_Processor_spent_ticks) (C8.fnBody s_Processor_spent_ticks) (C8.fnScope s_Processor_spent_ticks) [] [] (He.ma K (aC "Processor" K) "spent_ticks") fd) :
    C8.Met P w K mg base 1 (aC "Processor" K) "spent_ticks" (sp_Processor_spent_ticks K) [] := by
  refine C8.met0 T.cl_Processor T.m_Processor_spent_ticks (fun_c8 F) (F.bindsN fun _ _ _ _ _ _ us hl => match us, hl with | [_], _ => rfl) sc_Processor_spent_ticks (fun vs H Q E h => ?_) (fun cdv A outer s H vs Q E hr h => ?_)
  · obtain ⟨_, _, _, _, _, rfl, _⟩ := h
    rfl
  · have nd := sc_Processor_spent_ticks.nd
    have hu := hu_of hr
    obtain ⟨A, S, K0, s, M, rfl, ow, q⟩ := h
    refine ⟨_, (pss_one (ps_ret (pe_callTy call_tuple_of (by rfl) T.n_tuple (by decide +kernel) (pa_cons (pe_fld (pv 0) rfl) pa_nil)))), ?_⟩
    obtain ⟨sv, rv, h1, h2, sp⟩ := ow.ex
    have hpr := sp.c2
    refine ⟨_, rfl, _, _, _, _, _, rfl, hpr, T.cl_Processor, T.t_Processor_counts, rfl, _, _, rfl, .inl ⟨l_of sp.c5, fun p hp => ?_⟩⟩
    have g := sp.newk (o := .tup [.int s.c0, .int s.c1, .int s.c2, .int s.c3]) hp
    exact q _ _ p g (ow.mk2 (s := s) g ⟨sv, rv, h1.mono fun _ _ z => CallAt.up g z, h2.mono fun _ _ z => RowAt.up g z, sp.keep hp⟩) upd_same
abbrev N_Processor_call_rows : List Str := ["self", "call"]
theorem sc_Processor_call_rows : FnScope N_Processor_call_rows ["self"] (C8.fnScope s_Processor_call_rows) := C8.fnScope_by (by decide +kernel)
theorem ok_Processor_call_rows {fd : FuncData} (T : Txt K mg) (F : FunD K "call_rows" "Processor.call_rows" (C8.fnArgs s_Processor_call_rows) (C8.fnBody s_Processor_call_rows) (C8.fnScope s_Processor_call_rows) [] [] (He.ma K (aC "Processor" K) "call_rows") fd) :
    C8.Met P w K mg base 1 (aC "Processor" K) "call_rows" (sp_Processor_call_rows K) [] := by
  refine C8.met0 T.cl_Processor T.m_Processor_call_rows (fun_c8 F) (F.bindsN fun _ _ _ _ _ _ us hl => match us, hl with | [_], _ => rfl) sc_Processor_call_rows (fun vs H Q E h => ?_) (fun cdv A outer s H vs Q E hr h => ?_)
  · obtain ⟨_, _, _, _, _, rfl, _⟩ := h
    rfl
  · have nd := sc_Processor_call_rows.nd
    have hu := hu_of hr
    obtain ⟨A, S, K0, s, M, rfl, ow, hl, q⟩ := h
    refine ⟨_, (pss_one (ps_ret (pe_lc (own := [("call", 1)]) rfl nd (pi_list (pe_fld (pv 0) rfl)) (blkOk_by (own := [("call", 1)]) (N := N_Processor_call_rows) (sc := (C8.fnScope s_Processor_call_rows)) (by decide +kernel)) (fun _ _ _ _ _ => (pg_name (i := 1) nd rfl (Or.inl rfl))) (fun _ _ _ _ _ => pts_nil) (fun _ _ _ _ _ => (pe_slice (sl_tup : SlR _ (rSlT K)) (pv 1) po_none (po_some pe_int)))))), ?_⟩
    obtain ⟨sv, rv, h1, h2, sp⟩ := ow.ex
    have hpr := sp.c2
    have hlen := h1.length
    refine ⟨_, rfl, _, _, _, _, _, rfl, hpr, T.cl_Processor, T.t_Processor_stack, rfl, _, rfl, ⟨_, l_of sp.c3⟩, fun D hD => ?_⟩
    refine lc_it (walk_list (xs := sv)) (fun i H' => ∃ K' acc, Same K0 K' ∧ Sep K' H' ((D, .lst acc) :: lay K A S s sv rv M) ∧ Paired (C3At K K') acc (s.stack.take i)) ⟨K0, [], Same.refl _, sp.own hD, .nil⟩ ?_ ?_ ?_
    · rintro i H' _ ⟨K', acc, g, sp', _⟩
      exact l_of sp'.c4
    · rintro i v H1 H2 hi ⟨K', acc, g, sp', pr⟩ ⟨rfl, e2⟩
      obtain ⟨c, hc, t, rfl, ht⟩ := pget h1 e2
      have hlc := pr.length
      refine ⟨rfl, ⟨_, rfl, _, rfl, _, _, rfl, Same.tup (Same.tr g sp'.ext) ht, by simp [HT.sIx], fun p hp => ?_⟩⟩
      rw [cut3]
      have z := sp'.keep (o := .tup [.str c.line.name, .int (c.step : Nat), .int c.ticks]) hp
      have gz := sp'.newk (o := .tup [.str c.line.name, .int (c.step : Nat), .int c.ticks]) hp
      refine ⟨_, z.c0, sm (m := 4000) (by simp at hlc; omega) (by decide), _, _, Same.tr g gz, z.put0, ?_⟩
      rw [take_snoc hc]
      exact Paired.snoc (pr.mono fun _ _ z => C3At.up gz z) ⟨p, rfl, t_of upd_same⟩
    rintro H1 ⟨K', acc, g, sp', pr⟩
    rw [List.take_of_length_le (by omega)] at pr
    have g1 := sp'.new0
    have gA := Same.tr g g1
    exact q _ _ D acc gA (ow.mk2 (s := s) gA ⟨sv, rv, h1.mono fun _ _ z => CallAt.up gA z, h2.mono fun _ _ z => RowAt.up gA z, sp'.freeze⟩) upd_same (pr.mono fun _ _ z => C3At.up g1 z)
abbrev N_Processor_init : List Str := ["self", "setup", "board"]
theorem sc_Processor_init : FnScope N_Processor_init ["self", "setup", "board"] (C8.fnScope s_Processor_init) := C8.fnScope_by (by decide +kernel)
theorem ok_Processor_init {fd : FuncData} (T : Txt K mg) (F : FunD K "__init__" "Processor.__init__" (C8.fnArgs s_Processor_init) (C8.fnBody s_Processor_init) (C8.fnScope s_Processor_init) [] [] (He.ma K (aC "Processor" K) "__init__") fd) (c_works : FnP P w K mg base 1 (prA "Setup" "works" K) (sp_Setup_works K)) (c_WorkQueue : C8.Mak P w K mg base 1 "WorkQueue" (aC "WorkQueue" K) (sp_WorkQueue_init K) []) :
    C8.Mak P w K mg base 4 "Processor" (aC "Processor" K) (sp_Processor_init K) [] := by
  refine C8.mak0 (ds := []) T.mk_Processor T.g_Processor (fun_c8 F) (F.bindsN fun _ _ _ _ _ _ us hl => match us, hl with | [_, _, _], _ => rfl) .nil sc_Processor_init (fun vs H Q E h => ?_) (fun cdv A outer s H vs Q E hr h => ?_)
  · obtain ⟨_, _, _, _, _, _, _, _, _, rfl, _⟩ := h
    rfl
  · have nd := sc_Processor_init.nd
    have hu := hu_of hr
    obtain ⟨x, dx, bo, su, r, u, S, K0, M, rfl, sp, B, q⟩ := h
    obtain ⟨pw, hpw⟩ := T.p_Setup_works
    refine ⟨_, (pss_cons (ps_fld (pv 0) (pv 1) rfl)
      (pss_cons (ps_fld (pv 0) (pv 2) rfl)
      (pss_cons (ps_fld (pv 0) pe_int rfl)
      (pss_cons (ps_fld (pv 0) (pe_lst pa_nil) rfl)
      (pss_cons (ps_fld (pv 0) (C8.pe_mk c_WorkQueue hr (by decide) rfl (pa_cons (C_prop hpw T.cl_Setup c_works hr (by decide) (pv 1)) pa_nil)) rfl)
      (pss_one (ps_fld (pv 0) (pe_lst (pa_cons pe_int (pa_cons pe_int (pa_cons pe_int (pa_cons pe_int pa_nil))))) rfl))))))), ?_⟩
    obtain ⟨dx2, la, wa, bn, oa, xs, h3, h3b, h3c, _⟩ := B.su.ex
    refine ⟨_, rfl, _, rfl, _, _, _, _, rfl, sp.c0, T.cl_Processor, T.t_Processor_setup, (by simp), ?_⟩
    have t1 := sp.put0 (o' := .ins (aC "Processor" K) dx [("_setup", .ref su)])
    refine ⟨_, rfl, _, rfl, _, _, _, _, rfl, t1.c0, T.cl_Processor, T.t_Processor_board, (by simp), ?_⟩
    have t2 := t1.put0 (o' := .ins (aC "Processor" K) dx [("_setup", .ref su), ("_board", .ref bo)])
    refine ⟨_, rfl, _, _, _, _, rfl, t2.c0, T.cl_Processor, T.t_Processor_bar, (by simp), ?_⟩
    have t3 := t2.put0 (o' := .ins (aC "Processor" K) dx [("_setup", .ref su), ("_board", .ref bo), ("_bar", .int 0)])
    refine ⟨Nat.zero_le _, fun st hst => ?_⟩
    have t4 := (t3.own (o := .lst []) hst).swap
    refine ⟨_, rfl, _, _, _, _, rfl, t4.c0, T.cl_Processor, T.t_Processor_stack, (by simp), ?_⟩
    have t5 := t4.put0 (o' := .ins (aC "Processor" K) dx [("_setup", .ref su), ("_board", .ref bo), ("_bar", .int 0), ("_stack", .ref st)])
    refine ⟨_, rfl, su, dx2, _, rfl, t5.ext _ _ h3, su, S, K0, rfl, B.su, t5.ext, fun wa hwa jo dj hjo hdj hne => ?_⟩
    have t6 := t5.obj (o := .own jo) (o' := .ins (aC "WorkQueue" K) dj []) hjo hdj hne
    refine ⟨jo, dj, wa, S.ws, K0, _, rfl, t6, hwa, B.ok.okw, fun K1 H1 ro g1 hJ t7 => ⟨rfl, ?_⟩⟩
    refine ⟨_, rfl, _, _, _, _, rfl, t7.c1, T.cl_Processor, T.t_Processor_jobs, (by simp), ?_⟩
    have t8 := t7.swap.put0 (o' := .ins (aC "Processor" K) dx [("_setup", .ref su), ("_board", .ref bo), ("_bar", .int 0), ("_stack", .ref st), ("_jobs", .ref jo)])
    refine ⟨small8 (by simp), fun co hco => ?_⟩
    have t9 := (t8.own (o := .lst [.int 0, .int 0, .int 0, .int 0]) hco).swap
    refine ⟨_, rfl, _, _, _, _, rfl, t9.c0, T.cl_Processor, T.t_Processor_counts, (by simp), ?_⟩
    have tA := t9.put0 (o' := .ins (aC "Processor" K) dx [("_setup", .ref su), ("_board", .ref bo), ("_bar", .int 0), ("_stack", .ref st), ("_jobs", .ref jo), ("_counts", .ref co)])
    exact q K1 _ ⟨su, bo, r, u, x, dx, st, jo, ro, co⟩ g1 rfl rfl rfl ⟨BoardAt.up g1 B, hJ, [], [], .nil, .nil, tA.perm (perm6 _ _ _ _ _ _ _)⟩
end
end Cb

namespace Cb
open PySem PySem.Spec PyProof.Rows L2

def siI (K : PySem.W.Frag) (A : Ad) (dx : Addr) (now : Int) : HO := .ins (aC "Single" K) dx [("_setup", .ref A.su), ("_board", .ref A.bo), ("_processor", .ref A.pr), ("_now", .int now)]
theorem permR {α : Type} {r u pr st ro co si m : α} {M : List α} : (r :: m :: u :: pr :: st :: ro :: co :: si :: M).Perm (r :: u :: pr :: st :: ro :: co :: si :: m :: M) :=
  .cons r (List.perm_middle (l₁ := [u, pr, st, ro, co, si])).symm
def sp_Single_init (K : PySem.W.Frag) : Sp := fun vs H Q _ => ∃ (x dx su : Addr) (S : SetD) (K0 : Hp) (M : List (Addr × HO)), vs = [.ref x, .ref su] ∧ Sep K0 H ((x, .ins (aC "Single" K) dx []) :: M) ∧ SetupAt K K0 su S ∧ SetOk S ∧ (∀ l ∈ S.ls, l.lvl = false) ∧
  ∀ K1 H' A m, Same K0 K1 → A.su = su → MgAt K K1 A.bo m → Own K A S K1 H' st0 ((x, siI K A dx 0) :: (m, .dK (md S.order no0)) :: M) → Q .non H'
def sp_Single_ring (K : PySem.W.Frag) : Sp := fun vs H Q _ => ∃ (A : Ad) (S : SetD) (K0 : Hp) (s : StD) (si dx : Addr) (now : Int) (M : List (Addr × HO)) (l : LineD) (m : Addr) (c : Str → Int), vs = [.ref si, .str l.name] ∧ MgAt K K0 A.bo m ∧ Own K A S K0 H s ((si, siI K A dx now) :: (m, .dK (md S.order c)) :: M) ∧ l ∈ S.ls ∧
  ∀ H' x c', x = ringR (s.rung l.name) → Own K A S K0 H' { s with rung := fset s.rung l.name true } ((si, siI K A dx now) :: (m, .dK (md S.order c')) :: M) → Q (.str x) H'
structure RelK (S : SetD) (s s' : StD) (evs : List Ev) (d0 d2 d3 : Int) : Prop where
  good : Good S s'
  ev : ∀ e ∈ evs, EvOk S e
  due : due s'.stack + ecost evs = due s.stack + d0
  rs : rsum s'.rows + dcost evs = rsum s.rows + d2
  h0 : s'.c0 = s.c0 + d0
  h1 : s'.c1 = s.c1
  h2 : s'.c2 = s.c2 + d2
  h3 : s'.c3 = s.c3 + d3
  ln : s'.stack.length ≤ s.stack.length + 1
  rw : s'.rows.length ≤ s.rows.length + 16
  el : evs.length ≤ 3
def sp_Single_tick (K : PySem.W.Frag) : Sp := fun vs H Q _ => ∃ (A : Ad) (S : SetD) (K0 : Hp) (s : StD) (si dx : Addr) (now : Int) (M : List (Addr × HO)), vs = [.ref si] ∧ Own K A S K0 H s ((si, siI K A dx now) :: M) ∧ Good S s ∧ s.rows.length ≤ 3700 ∧ s.stack.length ≤ 3700 ∧
  ∀ K1 H' p ev evs s', Same K0 K1 → Own K A S K1 H' s' ((si, siI K A dx (now + 1)) :: M) → K1 p = some (.lst ev) → Paired (EvAt K K1) ev evs → (∃ d0 d2 d3, d0 + d2 + d3 = 1 ∧ RelK S s s' evs d0 d2 d3) → Q (.ref p) H'
def sp_Single_calls (K : PySem.W.Frag) : Sp := fun vs H Q _ => ∃ (A : Ad) (S : SetD) (K0 : Hp) (s : StD) (si dx : Addr) (now : Int) (M : List (Addr × HO)), vs = [.ref si] ∧ Own K A S K0 H s ((si, siI K A dx now) :: M) ∧ s.stack.length ≤ 3900 ∧
  ∀ K1 H' p ev, Same K0 K1 → Own K A S K1 H' s ((si, siI K A dx now) :: M) → K1 p = some (.lst ev) → Paired (C3At K K1) ev s.stack → Q (.ref p) H'
def sp_Single_queue (K : PySem.W.Frag) : Sp := fun vs H Q _ => ∃ (A : Ad) (S : SetD) (K0 : Hp) (s : StD) (si dx : Addr) (now : Int) (M : List (Addr × HO)), vs = [.ref si] ∧ Own K A S K0 H s ((si, siI K A dx now) :: M) ∧ s.rows.length ≤ 3900 ∧
  ∀ K1 H' p ev, Same K0 K1 → Own K A S K1 H' s ((si, siI K A dx now) :: M) → K1 p = some (.lst ev) → Paired (RowAt K K1) ev s.rows → Q (.ref p) H'
def sp_Single_spent (K : PySem.W.Frag) : Sp := fun vs H Q _ => ∃ (A : Ad) (S : SetD) (K0 : Hp) (s : StD) (si dx : Addr) (now : Int) (M : List (Addr × HO)), vs = [.ref si] ∧ Own K A S K0 H s ((si, siI K A dx now) :: M) ∧
  ∀ K1 H' p, Same K0 K1 → Own K A S K1 H' s ((si, siI K A dx now) :: M) → K1 p = some (.tup [.int s.c0, .int s.c1, .int s.c2, .int s.c3]) → Q (.ref p) H'
theorem Own.fr {K : PySem.W.Frag} {A : Ad} {S : SetD} {K0 H : Hp} {s : StD} {M : List (Addr × HO)} {a : Addr} {o : HO} (h : Own K A S K0 H s ((a, o) :: M)) : H a = some o := by
  obtain ⟨sv, rv, h1, h2, sp⟩ := h.ex
  exact sp.up6.c0
theorem Own.pr {K : PySem.W.Frag} {A : Ad} {S : SetD} {K0 H : Hp} {s : StD} {M : List (Addr × HO)} (h : Own K A S K0 H s M) : H A.pr = some (prI K A s.bar) := by
  obtain ⟨sv, rv, h1, h2, sp⟩ := h.ex
  exact sp.c2
theorem Own.same {K : PySem.W.Frag} {A : Ad} {S : SetD} {K0 H : Hp} {s : StD} {M : List (Addr × HO)} (h : Own K A S K0 H s M) : Same K0 H := by
  obtain ⟨sv, rv, h1, h2, sp⟩ := h.ex
  exact sp.ext
theorem Own.putM {K : PySem.W.Frag} {A : Ad} {S : SetD} {K0 H : Hp} {s : StD} {M : List (Addr × HO)} {a : Addr} {o o' : HO} (h : Own K A S K0 H s ((a, o) :: M)) : Own K A S K0 (upd H a o') s ((a, o') :: M) := by
  obtain ⟨sv, rv, h1, h2, sp⟩ := h.ex
  exact ⟨h.fb, h.fj, sv, rv, h1, h2, sp.up6.put0.dn6⟩
theorem Own.swapM {K : PySem.W.Frag} {A : Ad} {S : SetD} {K0 H : Hp} {s : StD} {M : List (Addr × HO)} {e f : Addr × HO} (h : Own K A S K0 H s (e :: f :: M)) : Own K A S K0 H s (f :: e :: M) := by
  obtain ⟨sv, rv, h1, h2, sp⟩ := h.ex
  exact ⟨h.fb, h.fj, sv, rv, h1, h2, sp.perm (.cons _ (.cons _ (.cons _ (.cons _ (.cons _ (.cons _ (.swap _ _ _)))))))⟩
theorem Own.freezeM {K : PySem.W.Frag} {A : Ad} {S : SetD} {K0 H : Hp} {s : StD} {M : List (Addr × HO)} {a : Addr} {o : HO} (h : Own K A S K0 H s ((a, o) :: M)) : Own K A S (upd K0 a o) H s M ∧ Same K0 (upd K0 a o) := by
  obtain ⟨sv, rv, h1, h2, sp⟩ := h.ex
  have g := sp.up6.new0
  exact ⟨h.mk2 (s := s) g ⟨sv, rv, h1.mono fun _ _ z => CallAt.up g z, h2.mono fun _ _ z => RowAt.up g z, sp.up6.freeze⟩, g⟩
theorem Own.ownM' {K : PySem.W.Frag} {A : Ad} {S : SetD} {K0 H H' : Hp} {s : StD} {M : List (Addr × HO)} {a : Addr} {o : HO} (h : Own K A S K0 H s M) (g : Same H H') (e : H a = none) (e' : H' a = some o) : Own K A S K0 H' s ((a, o) :: M) := by
  obtain ⟨sv, rv, h1, h2, sp⟩ := h.ex
  exact ⟨h.fb, h.fj, sv, rv, h1, h2, (sp.own' g e e').dn6⟩

section
variable {P : Program} {w : World} {K : PySem.W.Frag} {mg : Str → Option Value} {base : Heap}

abbrev N_Single_ring : List Str := ["self", "line"]
theorem sc_Single_ring : FnScope N_Single_ring ["self", "line"] (C8.fnScope s_Single_ring) := C8.fnScope_by (by decide +kernel)
theorem ok_Single_ring {fd : FuncData} (T : Txt K mg) (F : FunD K "ring" "Single.ring" (C8.fnArgs s_Single_ring) (C8.fnBody s_Single_ring) (C8.fnScope s_Single_ring) [] [] (He.ma K (aC "Single" K) "ring") fd) (c_ring : C8.Met P w K mg base 3 (aC "Board" K) "ring" (sp_Board_ring K) []) :
    C8.Met P w K mg base 4 (aC "Single" K) "ring" (sp_Single_ring K) [] := by
  refine C8.met0 T.cl_Single T.m_Single_ring (fun_c8 F) (F.bindsN fun _ _ _ _ _ _ us hl => match us, hl with | [_, _], _ => rfl) sc_Single_ring (fun vs H Q E h => ?_) (fun cdv A outer s H vs Q E hr h => ?_)
  · obtain ⟨_, _, _, _, _, _, _, _, _, _, _, rfl, _⟩ := h
    rfl
  · have nd := sc_Single_ring.nd
    have hu := hu_of hr
    obtain ⟨A, S, K0, s, si, dx, now, M, l, m, c, rfl, hM, ow, hl, q⟩ := h
    refine ⟨_, (pss_one (ps_ret (C8.pe_mt c_ring hr (by decide) (pe_fld (pv 0) rfl) (pa_cons (pv 1) pa_nil)))), ?_⟩
    have hsi := ow.fr
    obtain ⟨sv, rv, h1, h2, sp⟩ := ow.ex
    obtain ⟨db, d0, fl0, mg0, hbo, _⟩ := (BoardAt.up sp.ext ow.fb).ex
    refine ⟨_, rfl, _, _, _, _, _, rfl, hsi, T.cl_Single, T.t_Single_board, rfl, A.bo, db, _, rfl, hbo, rfl, _, rfl, A.bo, A.su, A.r, A.u, S, l, K0, s.rung, _, m, c, rfl, ow.fb, hM, hl, sp.perm permR, fun H1 x c' ex sp1 => q H1 x c' ex ⟨ow.fb, ow.fj, sv, rv, h1, h2, sp1.perm permR.symm⟩⟩
abbrev N_Single_calls : List Str := ["self"]
theorem sc_Single_calls : FnScope N_Single_calls ["self"] (C8.fnScope s_Single_calls) := C8.fnScope_by (by decide +kernel)
theorem ok_Single_calls {fd : FuncData} (T : Txt K mg) (F : FunD K "calls" "Single.calls" (C8.fnArgs s_Single_calls) (C8.fnBody s_Single_calls) (C8.fnScope s_Single_calls) [] [] (prA "Single" "calls" K) fd) (c_call_rows : C8.Met P w K mg base 1 (aC "Processor" K) "call_rows" (sp_Processor_call_rows K) []) :
    FnP P w K mg base 2 (prA "Single" "calls" K) (sp_Single_calls K) := by
  refine fnP_mk (fun_c8 F) (F.bindsN fun _ _ _ _ _ _ us hl => match us, hl with | [_], _ => rfl) sc_Single_calls (fun vs H Q E h => ?_) (fun cdv A outer s H vs Q E hr h => ?_)
  · obtain ⟨_, _, _, _, _, _, _, _, rfl, _⟩ := h
    rfl
  · have nd := sc_Single_calls.nd
    have hu := hu_of hr
    obtain ⟨A, S, K0, s, si, dx, now, M, rfl, ow, hl, q⟩ := h
    refine ⟨_, (pss_one (ps_ret (C8.pe_mt0 c_call_rows hr (by decide) (pe_fld (pv 0) rfl)))), ?_⟩
    have hsi := ow.fr
    exact ⟨_, rfl, _, _, _, _, _, rfl, hsi, T.cl_Single, T.t_Single_processor, rfl, A.pr, A.dp, _, rfl, ow.pr, rfl, A, S, K0, s, _, rfl, ow, hl, q⟩
abbrev N_Single_spent : List Str := ["self"]
theorem sc_Single_spent : FnScope N_Single_spent ["self"] (C8.fnScope s_Single_spent) := C8.fnScope_by (by decide +kernel)
theorem ok_Single_spent {fd : FuncData} (T : Txt K mg) (F : FunD K "spent" "Single.spent" (C8.fnArgs s_Single_spent) (C8.fnBody s_Single_spent) (C8.fnScope s_Single_spent) [] [] (prA "Single" "spent" K) fd) (c_spent_ticks : C8.Met P w K mg base 1 (aC "Processor" K) "spent_ticks" (sp_Processor_spent_ticks K) []) :
    FnP P w K mg base 2 (prA "Single" "spent" K) (sp_Single_spent K) := by
  refine fnP_mk (fun_c8 F) (F.bindsN fun _ _ _ _ _ _ us hl => match us, hl with | [_], _ => rfl) sc_Single_spent (fun vs H Q E h => ?_) (fun cdv A outer s H vs Q E hr h => ?_)
  · obtain ⟨_, _, _, _, _, _, _, _, rfl, _⟩ := h
    rfl
  · have nd := sc_Single_spent.nd
    have hu := hu_of hr
    obtain ⟨A, S, K0, s, si, dx, now, M, rfl, ow, q⟩ := h
    refine ⟨_, (pss_one (ps_ret (C8.pe_mt0 c_spent_ticks hr (by decide) (pe_fld (pv 0) rfl)))), ?_⟩
    have hsi := ow.fr
    exact ⟨_, rfl, _, _, _, _, _, rfl, hsi, T.cl_Single, T.t_Single_processor, rfl, A.pr, A.dp, _, rfl, ow.pr, rfl, A, S, K0, s, _, rfl, ow, q⟩
abbrev N_Single_tick : List Str := ["self", "events"]
theorem sc_Single_tick : FnScope N_Single_tick ["self"] (C8.fnScope s_Single_tick) := C8.fnScope_by (by decide +kernel)
theorem ok_Single_tick {fd : FuncData} (T : Txt K mg) (F : FunD K "tick" "Single.tick" (C8.fnArgs s_Single_tick) (C8.fnBody s_Single_tick) (C8.fnScope s_Single_tick) [] [] (He.ma K (aC "Single" K) "tick") fd) (c_take : C8.Met P w K mg base 6 (aC "Processor" K) "take" (sp_Processor_take K) []) (c_ready_lines : C8.Met P w K mg base 7 (aC "Board" K) "ready_lines" (sp_Board_ready_lines K) []) (c_go_on : C8.Met P w K mg base 7 (aC "Processor" K) "go_on" (sp_Processor_go_on K) []) :
    C8.Met P w K mg base 8 (aC "Single" K) "tick" (sp_Single_tick K) [] := by
  refine C8.met0 T.cl_Single T.m_Single_tick (fun_c8 F) (F.bindsN fun _ _ _ _ _ _ us hl => match us, hl with | [_], _ => rfl) sc_Single_tick (fun vs H Q E h => ?_) (fun cdv A outer s H vs Q E hr h => ?_)
  · obtain ⟨_, _, _, _, _, _, _, _, rfl, _⟩ := h
    rfl
  · have nd := sc_Single_tick.nd
    have hu := hu_of hr
    obtain ⟨A, S, K0, s, si, dx, now, M, rfl, ow, gd, hrl, hsl, q⟩ := h
    refine ⟨_, (pss_cons (ps_set (i := 1) nd rfl (Or.inl rfl) (C8.pe_mt c_take hr (by decide) (pe_fld (pv 0) rfl) (pa_cons (C8.pe_mt0 c_ready_lines hr (by decide) (pe_fld (pv 0) rfl)) pa_nil)))
      (pss_cons (ps_expr (pe_bm PySem.F.plainAttrs_list PySem.F.slot_list_extend PySem.F.type_list_extend mt_extend (pv 1) (pa_cons (C8.pe_mt0 c_go_on hr (by decide) (pe_fld (pv 0) rfl)) pa_nil)))
      (pss_cons (ps_fldaug (pv 0) pe_int in_add)
      (pss_one (ps_ret (pv 1)))))), ?_⟩
    have hsi := ow.fr
    obtain ⟨sv, rv, h1, h2, sp⟩ := ow.ex
    have fb1 := BoardAt.up sp.ext ow.fb
    obtain ⟨db, d0, fl0, mg0, hbo, _⟩ := fb1.ex
    refine ⟨_, rfl, _, _, _, _, _, rfl, hsi, T.cl_Single, T.t_Single_processor, rfl, A.pr, A.dp, _, rfl, ow.pr, rfl, ?_⟩
    refine ⟨_, rfl, _, _, _, _, _, rfl, hsi, T.cl_Single, T.t_Single_board, rfl, A.bo, db, _, rfl, hbo, rfl, A.bo, A.su, A.r, A.u, S, s.rung, s.und, rfl, fb1, sp.c0, sp.c1, fun lp H1 g1 hlp hlp1 => ?_⟩
    have owf := (ow.ownM' g1 hlp hlp1).freezeM
    refine ⟨A, S, _, s, _, lp, _, rfl, owf.1, gd, by omega, by omega, upd_same, fun n m => (List.mem_filter.mp (List.mem_filter.mp m).1).1, fun K1 H2 p ev evs s1 g2 ow2 he R => ?_⟩
    have hsi2 := ow2.swapM.fr
    have r1 := R.rw
    have r2 := R.ln
    refine ⟨_, rfl, .inl ⟨rfl, _, .inl (.inl ow2.fr)⟩, _, rfl, _, _, _, _, _, rfl, hsi2, T.cl_Single, T.t_Single_processor, rfl, A.pr, A.dp, _, rfl, ow2.pr, rfl, A, S, K1, s1, _, rfl, ow2, R.good, by omega, by omega, fun K2 H3 p2 ev2 evs2 s2 g3 ow3 hp2 he2 hR2 => ?_⟩
    obtain ⟨d0, d2, d3, hd, R2⟩ := hR2
    have l1 := he.length
    have l2 := he2.length
    have e1 := R.el
    have e2 := R2.el
    refine ⟨p, p2, ev, ev2, rfl, rfl, ow3.fr, ow3.same _ _ hp2, Nat.le_of_lt (sm (m := 9) (by omega) (by decide)), ?_⟩
    have ow4 := ow3.putM (o' := .lst (ev ++ ev2))
    have hsi4 := ow4.swapM.fr
    refine ⟨_, rfl, _, _, _, _, _, rfl, hsi4, T.cl_Single, T.t_Single_now, rfl, _, _, rfl, rfl, _, _, hsi4, by simp, ?_⟩
    have ow5 := ow4.swapM.putM (o' := siI K A dx (now + 1))
    obtain ⟨ow6, g6⟩ := ow5.swapM.freezeM
    have gA := Same.tr owf.2 (Same.tr g2 (Same.tr g3 g6))
    refine ⟨_, rfl, q _ _ p (ev ++ ev2) (evs ++ evs2) s2 gA ow6 upd_same (papp (he.mono fun _ _ z => EvAt.up (Same.tr g3 g6) z) (he2.mono fun _ _ z => EvAt.up g6 z)) ⟨d0, d2, d3, hd, R2.good, fun e m => ?_, ?_, ?_, ?_, ?_, ?_, ?_, ?_, ?_, ?_⟩⟩
    · exact (List.mem_append.mp m).elim (R.ev e) (R2.ev e)
    · have z1 := R.due
      have z2 := R2.due
      have z3 : ecost (evs ++ evs2) = ecost evs + ecost evs2 := by simp [ecost]
      omega
    · have z1 := R.rs
      have z2 := R2.rs
      have z3 : dcost (evs ++ evs2) = dcost evs + dcost evs2 := by simp [dcost]
      omega
    · have := R.h0; have := R2.h0; omega
    · have := R.h1; have := R2.h1; omega
    · have := R.h2; have := R2.h2; omega
    · have := R.h3; have := R2.h3; omega
    · have := R.ln; have := R2.ln; omega
    · have := R.rw; have := R2.rw; omega
    · simp; omega
abbrev N_Single_init : List Str := ["self", "setup"]
theorem sc_Single_init : FnScope N_Single_init ["self", "setup"] (C8.fnScope s_Single_init) := C8.fnScope_by (by decide +kernel)
theorem ok_Single_init {fd : FuncData} (T : Txt K mg) (F : FunD K "__init__" "Single.__init__" (C8.fnArgs s_Single_init) (C8.fnBody s_Single_init) (C8.fnScope s_Single_init) [] [] (He.ma K (aC "Single" K) "__init__") fd) (c_Board : C8.Mak P w K mg base 3 "Board" (aC "Board" K) (sp_Board_init K) []) (c_Processor : C8.Mak P w K mg base 4 "Processor" (aC "Processor" K) (sp_Processor_init K) []) :
    C8.Mak P w K mg base 7 "Single" (aC "Single" K) (sp_Single_init K) [] := by
  refine C8.mak0 (ds := []) T.mk_Single T.g_Single (fun_c8 F) (F.bindsN fun _ _ _ _ _ _ us hl => match us, hl with | [_, _], _ => rfl) .nil sc_Single_init (fun vs H Q E h => ?_) (fun cdv A outer s H vs Q E hr h => ?_)
  · obtain ⟨_, _, _, _, _, _, rfl, _⟩ := h
    rfl
  · have nd := sc_Single_init.nd
    have hu := hu_of hr
    obtain ⟨x, dx, su, S, K0, M, rfl, sp, hS, ok, ed, q⟩ := h
    refine ⟨_, (pss_cons (ps_fld (pv 0) (pv 1) rfl)
      (pss_cons (ps_fld (pv 0) (C8.pe_mk c_Board hr (by decide) rfl (pa_cons (pv 1) pa_nil)) rfl)
      (pss_cons (ps_fld (pv 0) (C8.pe_mk c_Processor hr (by decide) rfl (pa_cons (pv 1) (pa_cons (pe_fld (pv 0) rfl) pa_nil))) rfl)
      (pss_one (ps_fld (pv 0) pe_int rfl))))), ?_⟩
    refine ⟨_, rfl, _, rfl, _, _, _, _, rfl, sp.c0, T.cl_Single, T.t_Single_setup, (by simp), ?_⟩
    have t1 := sp.put0 (o' := .ins (aC "Single" K) dx [("_setup", .ref su)])
    refine ⟨_, rfl, fun bo db hbo hdb hne => ?_⟩
    have t2 := t1.obj (o := .own bo) (o' := .ins (aC "Board" K) db []) hbo hdb hne
    refine ⟨bo, db, su, S, K0, _, rfl, t2, hS, ok, ed, fun K1 H1 r u m g1 hB hM t3 => ⟨rfl, ?_⟩⟩
    refine ⟨_, rfl, _, _, _, _, rfl, t3.c3, T.cl_Single, T.t_Single_board, (by simp), ?_⟩
    have t4 := t3.put3 (y := .ins (aC "Single" K) dx [("_setup", .ref su), ("_board", .ref bo)])
    refine ⟨_, rfl, _, rfl, _, _, _, _, _, rfl, t4.c3, T.cl_Single, T.t_Single_board, rfl, fun pr dp hpr hdp hne2 => ?_⟩
    have t5 := t4.obj (o := .own pr) (o' := .ins (aC "Processor" K) dp []) hpr hdp hne2
    refine ⟨pr, dp, bo, su, r, u, S, K1, _, rfl, t5, hB, fun K2 H2 A g2 eA eB eS ow0 => ⟨rfl, ?_⟩⟩
    have ow := ow0.swapM
    refine ⟨_, rfl, _, _, _, _, rfl, ow.fr, T.cl_Single, T.t_Single_processor, (by simp), ?_⟩
    have ow2 := ow.putM (o' := .ins (aC "Single" K) dx [("_setup", .ref su), ("_board", .ref bo), ("_processor", .ref pr)])
    refine ⟨_, rfl, _, _, _, _, rfl, ow2.fr, T.cl_Single, T.t_Single_now, (by simp), ?_⟩
    have ow3 := ow2.putM (o' := .ins (aC "Single" K) dx [("_setup", .ref su), ("_board", .ref bo), ("_processor", .ref pr), ("_now", .int 0)])
    subst eA eB eS
    exact q K2 _ A m (Same.tr g1 g2) rfl (MgAt.up g2 hM) ow3
end
end Cb

namespace Cb
open PySem PySem.Spec PyProof.Rows L2

def rowO (sc : Addr) (i g x : Int) : HO := .lst [.ref sc, .int i, .int g, .int x]
def sp_law_taken (K : PySem.W.Frag) : Sp := fun vs H Q _ => ∃ (row sc : Addr) (m : Int) (ns : List Int) (i g x : Int) (K0 : Hp) (M : List (Addr × HO)), vs = [.ref row, .int m] ∧ 0 < m ∧ m < 1000 ∧ 0 ≤ i ∧ (0 ≤ g ∧ g < 2147483647) ∧ SqL K K0 sc (ns.map V.int) ∧ Sep K0 H ((row, rowO sc i g x) :: M) ∧
  ∀ H' i' g' x' r, 0 ≤ i' → (0 ≤ g' ∧ g' < 2147483647) → 0 ≤ r → r < m → Sep K0 H' ((row, rowO sc i' g' x') :: M) → Q (.int r) H'
theorem Same.lst {K : PySem.W.Frag} {H H' : Hp} {a : Addr} {xs : List V} (e : Same H H') (h : SqL K H a xs) : SqL K H' a xs := h.elim (fun h => .inl (Same.rd e h)) .inr

section
variable {P : Program} {w : World} {K : PySem.W.Frag} {mg : Str → Option Value} {base : Heap}

abbrev N_law_taken : List Str := ["_law_row", "_law_many", "_law_found", "_law_cell"]
theorem sc_law_taken : FnScope N_law_taken ["_law_row", "_law_many"] (C8.fnScope s_law_taken) := C8.fnScope_by (by decide +kernel)
theorem ok_law_taken {fd : FuncData} (T : Txt K mg) (F : FunD K "_law_taken" "_law_taken" (C8.fnArgs s_law_taken) (C8.fnBody s_law_taken) (C8.fnScope s_law_taken) [] [] (He.ga K "_law_taken") fd) :
    C8.Cal P w K mg base 1 "_law_taken" (sp_law_taken K) [] := by
  refine C8.cal0 (ds := []) ⟨fun_c8 F, T.f__law_taken, F.kp⟩ (F.bindsN fun _ _ _ _ _ _ us hl => match us, hl with | [_, _], _ => rfl) .nil sc_law_taken (fun vs H Q E h => ?_) (fun cdv A outer s H vs Q E hr h => ?_)
  · obtain ⟨_, _, _, _, _, _, _, _, _, rfl, _⟩ := h
    rfl
  · have nd := sc_law_taken.nd
    have hu := hu_of hr
    obtain ⟨row, sc, m, ns, i, g, x, K0, M, rfl, hm, hm2, hi, hg, hsc, sp, q⟩ := h
    refine ⟨_, (pss_cons (ps_if (pt_cmpR op_gt (pe_ix ix_list (pv 0) pe_int (fun _ _ => rfl)) pe_int (nomark _)) (pss_cons (ps_set (i := 2) nd rfl (Or.inl rfl) (pe_op op_mod (pe_callTy call_int1 (by rfl) T.n_int (by decide +kernel) (pa_cons (pe_ix ix_list (pv 0) pe_int (fun _ _ => rfl)) pa_nil)) (pv 1)))
      (pss_cons (ps_asg (pe_op op_fdiv (pe_ix ix_list (pv 0) pe_int (fun _ _ => rfl)) (pv 1)) (pg_sub (pv 0) pe_int set_list))
      (pss_one (ps_ret (pv 2))))) pss_nil)
      (pss_cons (ps_asg (pe_op op_add (pe_ix ix_list (pv 0) pe_int (fun _ _ => rfl)) pe_int) (pg_sub (pv 0) pe_int set_list))
      (pss_cons (ps_if (pt_cmpR op_gt (pe_ix ix_list (pv 0) pe_int (fun _ _ => rfl)) (pe_callB call_len_seq (by rfl) T.n_len (by decide +kernel) (pa_cons (pe_ix ix_list (pv 0) pe_int (fun _ _ => rfl)) pa_nil)) (nomark _)) (pss_cons (ps_asg (pe_op op_mod (pe_callTy call_int1 (by rfl) T.n_int (by decide +kernel) (pa_cons (pe_op op_add (pe_op op_mul (pe_ix ix_list (pv 0) pe_int (fun _ _ => rfl)) pe_int) pe_int) pa_nil)) pe_int) (pg_sub (pv 0) pe_int set_list))
      (pss_one (ps_ret (pe_op op_mod (pe_callTy call_int1 (by rfl) T.n_int (by decide +kernel) (pa_cons (pe_op op_fdiv (pe_ix ix_list (pv 0) pe_int (fun _ _ => rfl)) pe_int) pa_nil)) (pv 1))))) pss_nil)
      (pss_cons (ps_set (i := 3) nd rfl (Or.inl rfl) (pe_ix ix_list (pe_ix ix_list (pv 0) pe_int (fun _ _ => rfl)) (pe_op op_sub (pe_ix ix_list (pv 0) pe_int (fun _ _ => rfl)) pe_int) (fun _ _ => rfl)))
      (pss_cons (ps_asg (pe_op op_mod (pe_callTy call_int1 (by rfl) T.n_int (by decide +kernel) (pa_cons (pe_op op_add (pe_op op_add (pe_op op_mul (pe_ix ix_list (pv 0) pe_int (fun _ _ => rfl)) pe_int) (pv 3)) pe_int) pa_nil)) pe_int) (pg_sub (pv 0) pe_int set_list))
      (pss_cons (ps_if (pt_cmpR op_ge (pv 3) (pe_op op_pow pe_int pe_int) (nomark _)) (pss_one (ps_asg (pe_op op_fdiv (pv 3) (pv 1)) (pg_sub (pv 0) pe_int set_list))) pss_nil)
      (pss_one (ps_ret (pe_op op_mod (pe_callTy call_int1 (by rfl) T.n_int (by decide +kernel) (pa_cons (pv 3) pa_nil)) (pv 1)))))))))), ?_⟩
    have hr0 := l_of (K := K) sp.c0
    have md : ∀ z : Int, 0 ≤ z % m ∧ z % m < m := fun z => ⟨Int.emod_nonneg z (by omega), Int.emod_lt_of_pos z hm⟩
    refine ⟨_, rfl, _, _, _, _, rfl, rfl, hr0, rfl, _, _, rfl, rfl, decide (0 < x), rfl, ?_⟩
    by_cases hx : 0 < x
    · rw [decide_eq_true hx]
      refine iteT ⟨_, rfl, _, _, _, _, rfl, rfl, hr0, rfl, .inl ⟨_, rfl, _, rfl, _, _, rfl, rfl, hm, ?_⟩⟩
      refine ⟨_, rfl, _, _, _, _, rfl, rfl, hr0, rfl, _, rfl, _, _, rfl, rfl, ⟨hm, by omega⟩, ?_⟩
      refine ⟨_, rfl, _, _, _, 3, rfl, rfl, sp.c0, rfl, ?_⟩
      have sp1 := sp.put0 (o' := rowO sc i g (x / m))
      exact ⟨_, rfl, q _ _ _ _ _ hi hg (md _).1 (md _).2 sp1⟩
    rw [decide_eq_false hx]
    refine iteF ?_
    refine ⟨_, rfl, _, _, _, _, rfl, rfl, hr0, rfl, _, _, rfl, rfl, ?_⟩
    refine ⟨_, rfl, _, _, _, 1, rfl, rfl, sp.c0, rfl, ?_⟩
    have sp1 := sp.put0 (o' := rowO sc (i + 1) g x)
    have hr1 := l_of (K := K) sp1.c0
    have hsc1 := Same.lst sp1.ext hsc
    refine ⟨_, rfl, _, _, _, _, rfl, rfl, hr1, rfl, _, rfl, _, _, _, _, rfl, rfl, hr1, rfl, _, _, rfl, .inl hsc1, _, _, rfl, rfl, decide (((ns.map V.int).length : Int) < i + 1), rfl, ?_⟩
    have rest : ∀ (z : Int), 0 ≤ z % m ∧ z % m < m := md
    by_cases hlen : ((ns.map V.int).length : Int) < i + 1
    · rw [decide_eq_true hlen]
      refine iteT ⟨_, rfl, _, _, _, _, rfl, rfl, hr1, rfl, _, _, rfl, rfl, (by unfold CMul; omega), _, _, rfl, rfl, .inl ⟨_, rfl, _, _, rfl, rfl, (by show (0 : Int) < 2147483647; decide), ?_⟩⟩
      refine ⟨_, rfl, _, _, _, 2, rfl, rfl, sp1.c0, rfl, ?_⟩
      have sp2 := sp1.put0 (o' := rowO sc (i + 1) ((g * 48271 + 11) % 2147483647) x)
      have hr2 := l_of (K := K) sp2.c0
      refine ⟨_, rfl, _, _, _, _, rfl, rfl, hr2, rfl, _, _, rfl, rfl, ⟨by decide, by decide⟩, .inl ⟨_, rfl, _, rfl, _, _, rfl, rfl, hm, ?_⟩⟩
      exact q _ _ _ _ _ (by omega) ⟨Int.emod_nonneg _ (by decide), Int.emod_lt_of_pos _ (by decide)⟩ (md _).1 (md _).2 sp2
    rw [decide_eq_false hlen]
    refine iteF ?_
    have hin : i.toNat < (ns.map V.int).length := by omega
    have hget : (ns.map V.int)[i.toNat]? = some (.int (ns[i.toNat]'(by simpa using hin))) := by simp
    have hat : atI (ns.map V.int) (i + 1 - 1) = some (.int (ns[i.toNat]'(by simpa using hin))) := by
      rw [show i + 1 - 1 = ((i.toNat : Nat) : Int) by omega]
      exact atIn hget
    generalize ns[i.toNat]'(by simpa using hin) = y at hget hat
    refine ⟨_, rfl, _, _, _, _, rfl, rfl, hr1, rfl, _, rfl, _, _, _, _, rfl, rfl, hr1, rfl, _, _, rfl, rfl, _, _, _, _, rfl, rfl, hsc1, hat, ?_⟩
    refine ⟨_, rfl, _, _, _, _, rfl, rfl, hr1, rfl, _, _, rfl, rfl, (by unfold CMul; omega), _, rfl, _, _, rfl, rfl, _, _, rfl, rfl, .inl ⟨_, rfl, _, _, rfl, rfl, (by show (0 : Int) < 2147483647; decide), ?_⟩⟩
    refine ⟨_, rfl, _, _, _, 2, rfl, rfl, sp1.c0, rfl, ?_⟩
    have sp2 := sp1.put0 (o' := rowO sc (i + 1) ((g * 48271 + y + 11) % 2147483647) x)
    have hg2 : 0 ≤ (g * 48271 + y + 11) % 2147483647 ∧ (g * 48271 + y + 11) % 2147483647 < 2147483647 := ⟨Int.emod_nonneg _ (by decide), Int.emod_lt_of_pos _ (by decide)⟩
    refine ⟨_, rfl, _, _, rfl, rfl, ⟨by decide, by decide, by decide⟩, _, _, rfl, rfl, decide (10 ^ 18 ≤ y), rfl, ?_⟩
    by_cases hy : 10 ^ 18 ≤ y
    · rw [decide_eq_true hy]
      refine iteT ⟨_, rfl, _, rfl, _, _, rfl, rfl, ⟨hm, by omega⟩, ?_⟩
      refine ⟨_, rfl, _, _, _, 3, rfl, rfl, sp2.c0, rfl, ?_⟩
      have sp3 := sp2.put0 (o' := rowO sc (i + 1) ((g * 48271 + y + 11) % 2147483647) (y / m))
      exact ⟨_, rfl, .inl ⟨_, rfl, _, rfl, _, _, rfl, rfl, hm, q _ _ _ _ _ (by omega) hg2 (md _).1 (md _).2 sp3⟩⟩
    · rw [decide_eq_false hy]
      exact iteF ⟨_, rfl, .inl ⟨_, rfl, _, rfl, _, _, rfl, rfl, hm, q _ _ _ _ _ (by omega) hg2 (md _).1 (md _).2 sp2⟩⟩
end
end Cb

namespace Cb
open PySem PySem.Spec PyProof.Rows L2

/-! plain set-ups: what a tick does, to the letter -/
def PlainS (S : SetD) : Prop := ∀ l ∈ S.ls, ∀ st ∈ l.steps, ∃ n, st = .run n ∧ 1 ≤ n
def floorP (s : StD) : Int := match s.stack.getLast? with
  | some c => if c.line.rank > s.bar then c.line.rank else s.bar
  | none => s.bar
def goP (s : StD) : StD × List Ev := match s.stack.getLast? with
  | none => (s, [])
  | some c => if c.step < c.line.steps.length then (s, []) else ({ s with stack := s.stack.dropLast, bar := c.kept, und := fset s.und c.line.name false }, [.fin c.line])
def stepT (c : CallD) : Int := match c.line.steps[c.step]? with
  | some (.run n) => n
  | _ => 0
def spendP (s : StD) : StD × List Ev := match s.stack.getLast? with
  | none => ({ s with c3 := s.c3 + 1 }, [])
  | some c => if c.ticks + 1 < stepT c then ({ s with c0 := s.c0 + 1, stack := s.stack.dropLast ++ [{ c with ticks := c.ticks + 1 }] }, [])
    else goP { s with c0 := s.c0 + 1, stack := s.stack.dropLast ++ [{ c with step := c.step + 1, ticks := 0 }] }
def beginP (s : StD) (l : LineD) : StD := { s with rung := fset s.rung l.name false, und := fset s.und l.name true, stack := s.stack ++ [⟨l, 0, 0, s.bar⟩] }
def spP_lets_by (K : PySem.W.Frag) : Sp := fun vs H Q _ => ∃ (A : Ad) (S : SetD) (K0 : Hp) (s : StD) (M : List (Addr × HO)) (l : LineD), vs = [.ref A.pr, .str l.name] ∧ Own K A S K0 H s M ∧ l ∈ S.ls ∧ (∀ c ∈ s.stack, c.line ∈ S.ls) ∧ Q (.bl (decide (floorP s < l.rank))) H
structure GoodP (S : SetD) (s : StD) : Prop where
  calls : ∀ c ∈ s.stack, CallOk S c
  rows : s.rows = []
def spP_go_through (K : PySem.W.Frag) : Sp := fun vs H Q _ => ∃ (A : Ad) (S : SetD) (K0 : Hp) (s : StD) (M : List (Addr × HO)) (rest : List CallD) (c : CallD), vs = [.ref A.pr] ∧ Own K A S K0 H s M ∧ s.stack = rest ++ [c] ∧ c.line ∈ S.ls ∧ c.step ≤ c.line.steps.length ∧ PlainS S ∧ s.stack.length ≤ 3900 ∧
  PostE K A S K0 M Q fun s' evs => (s', evs) = goP s

section
variable {P : Program} {w : World} {K : PySem.W.Frag} {mg : Str → Option Value} {base : Heap}

abbrev NP_Processor_lets_by : List Str := ["self", "line", "floor"]
theorem scP_Processor_lets_by : FnScope NP_Processor_lets_by ["self", "line"] (C8.fnScope s_Processor_lets_by) := C8.fnScope_by (by decide +kernel)
theorem okP_Processor_lets_by {fd : FuncData} (T : Txt K mg) (F : FunD K "_lets_by" "Processor._lets_by" (C8.fnArgs s_Processor_lets_by) (C8.fnBody s_Processor_lets_by) (C8.fnScope s_Processor_lets_by) [] [] (He.ma K (aC "Processor" K) "_lets_by") fd) (c_getitem : C8.Met P w K mg base 2 (aC "Setup" K) "__getitem__" (sp_Setup_getitem K) []) :
    C8.Met P w K mg base 4 (aC "Processor" K) "_lets_by" (spP_lets_by K) [] := by
  refine C8.met0 T.cl_Processor T.m_Processor_lets_by (fun_c8 F) (F.bindsN fun _ _ _ _ _ _ us hl => match us, hl with | [_, _], _ => rfl) scP_Processor_lets_by (fun vs H Q E h => ?_) (fun cdv A outer s H vs Q E hr h => ?_)
  · obtain ⟨_, _, _, _, _, _, rfl, _⟩ := h
    rfl
  · have nd := scP_Processor_lets_by.nd
    have hu := hu_of hr
    obtain ⟨A, S, K0, s, M, l, rfl, ow, hl, hc, q⟩ := h
    refine ⟨_, (pss_cons (ps_set (i := 2) nd rfl (Or.inl rfl) (pe_fld (pv 0) rfl))
      (pss_cons (ps_if (pt_truth (pe_fld (pv 0) rfl) (by intro _; rfl)) (pss_one (ps_set (i := 2) nd rfl (Or.inl rfl) (pe_callB (call_max2 rfl) (by rfl) T.n_max (by decide +kernel) (pa_cons (pv 2) (pa_cons (pe_ix ix_tup (C_ix T.m_Setup_getitem T.i_getitem c_getitem hr (by decide) (pe_fld (pv 0) rfl) (pe_ix ix_tup (pe_ix ix_list (pe_fld (pv 0) rfl) (pe_un un_neg pe_int) (fun _ _ => rfl)) pe_int (fun _ _ => rfl))) pe_int (fun _ _ => rfl)) pa_nil))))) pss_nil)
      (pss_one (ps_ret (pe_cmpR op_gt (pe_ix ix_tup (C_ix T.m_Setup_getitem T.i_getitem c_getitem hr (by decide) (pe_fld (pv 0) rfl) (pv 1)) pe_int (fun _ _ => rfl)) (pv 2) (nomark _)))))), ?_⟩
    obtain ⟨sv, rv, h1, h2, sp⟩ := ow.ex
    have hpr := sp.c2
    obtain ⟨dx2, _, _, _, _, _, h3, _⟩ := ow.fb.su.ex
    refine ⟨_, rfl, _, _, _, _, _, rfl, hpr, T.cl_Processor, T.t_Processor_bar, rfl, ?_⟩
    rcases List.eq_nil_or_concat s.stack with e1 | ⟨rest, c, e1⟩
    · have h1' := h1
      rw [e1] at h1'
      cases h1'
      have hfl : floorP s = s.bar := by unfold floorP; rw [e1]; rfl
      refine ⟨_, rfl, _, _, _, _, _, rfl, hpr, T.cl_Processor, T.t_Processor_stack, rfl, false, .inl ⟨_, l_of sp.c3, rfl⟩, iteF ?_⟩
      refine ⟨_, rfl, _, _, _, _, _, rfl, hpr, T.cl_Processor, T.t_Processor_setup, rfl, _, rfl, A.su, dx2, _, rfl, sp.ext _ _ h3, A.su, S, l, K0, rfl, ow.fb.su, sp.ext, ow.fb.ok, hl, fun v hv => ?_⟩
      obtain ⟨a, g1, hs1, rfl, h5, h6, h7⟩ := hv
      exact ⟨_, _, _, _, rfl, rfl, Same.tup sp.ext h5, rfl, _, rfl, _, _, rfl, rfl, by rw [hfl] at q; exact q⟩
    · rw [List.concat_eq_append] at e1
      have h1' := h1
      rw [e1] at h1'
      obtain ⟨sv', v, e2, h4, t, rfl, ht⟩ := psnoc h1'
      have hlc := hc c (by rw [e1]; simp)
      have hfl : floorP s = if c.line.rank > s.bar then c.line.rank else s.bar := by unfold floorP; rw [e1]; simp
      have hc3 := sp.c3
      rw [e2] at hc3
      refine ⟨_, rfl, _, _, _, _, _, rfl, hpr, T.cl_Processor, T.t_Processor_stack, rfl, true, .inl ⟨_, l_of sp.c3, by rw [e2]; simp⟩, iteT ?_⟩
      refine ⟨_, rfl, _, rfl, _, _, _, _, _, rfl, hpr, T.cl_Processor, T.t_Processor_setup, rfl, _, rfl, _, _, _, _, _, rfl, hpr, T.cl_Processor, T.t_Processor_stack, rfl, _, rfl, _, _, _, _, rfl, rfl, l_of hc3, atIm, _, _, _, _, rfl, rfl, Same.tup sp.ext ht, rfl, A.su, dx2, _, rfl, sp.ext _ _ h3, A.su, S, c.line, K0, rfl, ow.fb.su, sp.ext, ow.fb.ok, hlc, fun v hv => ?_⟩
      obtain ⟨a, g1, hs1, rfl, h5, h6, h7⟩ := hv
      refine ⟨_, _, _, _, rfl, rfl, Same.tup sp.ext h5, rfl, _, _, rfl, ?_⟩
      refine ⟨_, rfl, _, _, _, _, _, rfl, hpr, T.cl_Processor, T.t_Processor_setup, rfl, _, rfl, A.su, dx2, _, rfl, sp.ext _ _ h3, A.su, S, l, K0, rfl, ow.fb.su, sp.ext, ow.fb.ok, hl, fun v hv => ?_⟩
      obtain ⟨a, g1, hs1, rfl, h5, h6, h7⟩ := hv
      exact ⟨_, _, _, _, rfl, rfl, Same.tup sp.ext h5, rfl, _, rfl, _, _, rfl, rfl, by rw [hfl] at q; exact q⟩
abbrev NP_Processor_go_through : List Str := ["self", "line", "step", "ticks", "kept", "handler"]
theorem scP_Processor_go_through : FnScope NP_Processor_go_through ["self"] (C8.fnScope s_Processor_go_through) := C8.fnScope_by (by decide +kernel)
theorem okP_Processor_go_through {fd : FuncData} (T : Txt K mg) (F : FunD K "_go_through" "Processor._go_through" (C8.fnArgs s_Processor_go_through) (C8.fnBody s_Processor_go_through) (C8.fnScope s_Processor_go_through) [] [] (He.ma K (aC "Processor" K) "_go_through") fd) (c_getitem : C8.Met P w K mg base 2 (aC "Setup" K) "__getitem__" (sp_Setup_getitem K) []) (c_takes_no_tick : C8.Met P w K mg base 1 (aC "Processor" K) "_takes_no_tick" (sp_Processor_takes_no_tick K) []) (c_act : C8.Met P w K mg base 2 (aC "Processor" K) "_act" (sp_Processor_act K) []) (c_end : C8.Met P w K mg base 1 (aC "Board" K) "end" (sp_Board_end K) []) :
    C8.Met P w K mg base 4 (aC "Processor" K) "_go_through" (spP_go_through K) [] := by
  refine C8.met0 T.cl_Processor T.m_Processor_go_through (fun_c8 F) (F.bindsN fun _ _ _ _ _ _ us hl => match us, hl with | [_], _ => rfl) scP_Processor_go_through (fun vs H Q E h => ?_) (fun cdv A outer s H vs Q E hr h => ?_)
  · obtain ⟨_, _, _, _, _, _, _, rfl, _⟩ := h
    rfl
  · have nd := scP_Processor_go_through.nd
    have hu := hu_of hr
    obtain ⟨A, S, K0, s, M, rest, c, rfl, ow, hst, hl, hcs, hpl, hsl, q⟩ := h
    refine ⟨_, (pss_cons (ps_asg (pe_bm0 PySem.F.plainAttrs_list PySem.F.slot_list_pop PySem.F.type_list_pop mt_pop (pe_fld (pv 0) rfl)) (pg_tup rfl (pgs_cons (pg_name (i := 1) nd rfl (Or.inl rfl)) (pgs_cons (pg_name (i := 2) nd rfl (Or.inl rfl)) (pgs_cons (pg_name (i := 3) nd rfl (Or.inl rfl)) (pgs_cons (pg_name (i := 4) nd rfl (Or.inl rfl)) pgs_nil))))))
      (pss_cons (ps_set (i := 5) nd rfl (Or.inl rfl) (pe_ix ix_tup (C_ix T.m_Setup_getitem T.i_getitem c_getitem hr (by decide) (pe_fld (pv 0) rfl) (pv 1)) pe_int (fun _ _ => rfl)))
      (pss_cons (ps_while PassesOwn.never (PW.pt (pw_and (pt_cmpR op_lt (pv 2) (pe_callB call_len_seq (by rfl) T.n_len (by decide +kernel) (pa_cons (pv 5) pa_nil)) (nomark _)) (pw_and1 (pt_val (C8.pe_mt c_takes_no_tick hr (by decide) (pv 0) (pa_cons (pe_ix ix_tup (pv 5) (pv 2) (fun _ _ => rfl)) pa_nil)))))) (pss_cons (ps_expr (C8.pe_mt c_act hr (by decide) (pv 0) (pa_cons (pe_ix ix_tup (pv 5) (pv 2) (fun _ _ => rfl)) pa_nil)))
      (pss_one (ps_aug (i := 2) nd rfl (Or.inl rfl) pe_int ip_add))))
      (pss_cons (ps_if (pt_cmpR op_lt (pv 2) (pe_callB call_len_seq (by rfl) T.n_len (by decide +kernel) (pa_cons (pv 5) pa_nil)) (nomark _)) (pss_cons (ps_expr (pe_bm PySem.F.plainAttrs_list PySem.F.slot_list_append PySem.F.type_list_append mt_append (pe_fld (pv 0) rfl) (pa_cons (pe_tup (pa_cons (pv 1) (pa_cons (pv 2) (pa_cons (pv 3) (pa_cons (pv 4) pa_nil))))) pa_nil)))
      (pss_one (ps_ret (pe_lst pa_nil)))) pss_nil)
      (pss_cons (ps_fld (pv 0) (pv 4) rfl)
      (pss_cons (ps_expr (C8.pe_mt c_end hr (by decide) (pe_fld (pv 0) rfl) (pa_cons (pv 1) pa_nil)))
      (pss_one (ps_ret (pe_lst (pa_cons (pe_tup (pa_cons pe_str (pa_cons (pv 1) pa_nil))) pa_nil)))))))))), ?_⟩
    obtain ⟨sv, rv, h1, h2, sp⟩ := ow.ex
    have hpr := sp.c2
    obtain ⟨dx2, _, _, _, _, _, h3, _⟩ := ow.fb.su.ex
    rw [hst] at h1
    obtain ⟨sv', v, e2, h4, t, rfl, ht⟩ := psnoc h1
    have hc3 := sp.c3
    rw [e2] at hc3
    have hlast : (sv' ++ [V.ref t])[(sv' ++ [V.ref t]).length - 1]? = some (V.ref t) := by simp
    refine ⟨_, rfl, _, _, _, _, _, rfl, hpr, T.cl_Processor, T.t_Processor_stack, rfl, .inl ⟨rfl, _, .inl (.inl hc3)⟩, _, _, _, rfl, rfl, hc3, hlast, ?_⟩
    rw [List.dropLast_concat]
    have sp1 := sp.put3 (y := .lst sv')
    have hpr1 := sp1.c2
    refine ⟨_, _, rfl, Same.tup sp1.ext ht, rfl, _, _, rfl, _, _, rfl, _, _, rfl, _, _, rfl, rfl, ?_⟩
    refine ⟨_, rfl, _, _, _, _, _, rfl, hpr1, T.cl_Processor, T.t_Processor_setup, rfl, _, rfl, A.su, dx2, _, rfl, sp1.ext _ _ h3, A.su, S, c.line, K0, rfl, ow.fb.su, sp1.ext, ow.fb.ok, hl, fun v hv => ?_⟩
    obtain ⟨a, g1, hs1, rfl, h5, h6, h7⟩ := hv
    have hlen := h7.length
    refine ⟨_, _, _, _, rfl, rfl, Same.tup sp1.ext h5, rfl, ?_⟩
    have hh := Same.tup sp1.ext h6
    have hgo : goP s = if c.step < c.line.steps.length then (s, []) else ({ s with stack := s.stack.dropLast, bar := c.kept, und := fset s.und c.line.name false }, [.fin c.line]) := by
      unfold goP
      rw [hst]
      simp
    have hdl : s.stack.dropLast = rest := by rw [hst]; simp
    generalize hH1 : upd H A.st (.lst sv') = H1 at sp1 hpr1 hh
    refine ⟨fun m σ H' => m = 0 ∧ H' = H1 ∧ σ = [some (.ref A.pr), some (.str c.line.name), some (.int (c.step : Nat)), some (.int c.ticks), some (.int c.kept), some (.ref g1)], ⟨0, rfl, rfl, rfl⟩, ?_⟩
    rintro m σ H2 ⟨rfl, rfl, rfl⟩
    rcases Nat.lt_or_ge c.step c.line.steps.length with hj | hj
    · have hstj : c.line.steps[c.step]? = some c.line.steps[c.step] := List.getElem?_eq_getElem hj
      obtain ⟨x, hx, hx2⟩ := pgetr h7 hstj
      obtain ⟨n, en, _⟩ := hpl c.line hl _ (List.mem_of_getElem? hstj)
      rw [en] at hx2
      have htst : decide ((c.step : Int) < (hs1.length : Nat)) = true := decide_eq_true (by omega)
      refine ⟨_, rfl, _, rfl, _, _, rfl, .inr hh, _, _, rfl, rfl, true, congrArg V.bl htst, iteT ?_⟩
      refine ⟨_, rfl, A.pr, A.dp, _, rfl, hpr1, rfl, _, rfl, _, rfl, _, _, _, _, rfl, rfl, hh, atIn hx, A.pr, x, _, rfl, StepAt.up sp1.ext hx2, false, rfl, iteF ?_⟩
      refine ⟨_, rfl, _, rfl, _, _, rfl, .inr hh, _, _, rfl, rfl, true, congrArg V.bl htst, iteT ?_⟩
      refine ⟨_, rfl, _, _, _, _, _, rfl, hpr1, T.cl_Processor, T.t_Processor_stack, rfl, .inl ⟨rfl, _, .inl (.inl sp1.c3)⟩, _, rfl, _, rfl, _, rfl, _, rfl, small8 (by simp), fun t2 ht2 => ?_⟩
      have sp3 := sp1.keep (o := .tup [.str c.line.name, .int (c.step : Nat), .int c.ticks, .int c.kept]) ht2
      have g3 := sp1.newk (o := .tup [.str c.line.name, .int (c.step : Nat), .int c.ticks, .int c.kept]) ht2
      refine ⟨_, _, _, rfl, rfl, sp3.c3, sm (m := 4000) (by have hk : sv'.length = rest.length := h4.length; rw [hst] at hsl; simp at hsl; omega) (by decide), ?_⟩
      have sp4 := sp3.put3 (y := .lst (sv' ++ [.ref t2]))
      refine ⟨Nat.zero_le _, fun p hp => ?_⟩
      have sp5 := sp4.keep (o := .lst []) hp
      have g5 := sp4.newk (o := .lst []) hp
      have gA := Same.tr g3 g5
      refine q _ _ p [] [] s gA (ow.mk2 (s := s) gA ⟨sv' ++ [V.ref t2], rv, ?_, h2.mono fun _ _ z => RowAt.up gA z, sp5⟩) upd_same .nil (by rw [hgo, if_pos hj])
      rw [hst]
      exact Paired.snoc (h4.mono fun _ _ z => CallAt.up gA z) ⟨t2, rfl, t_of (g5 _ _ upd_same)⟩
    · have htst : decide ((c.step : Int) < (hs1.length : Nat)) = false := decide_eq_false (by omega)
      refine ⟨_, rfl, _, rfl, _, _, rfl, .inr hh, _, _, rfl, rfl, false, congrArg V.bl htst, iteF ?_⟩
      refine ⟨_, rfl, _, rfl, _, _, rfl, .inr hh, _, _, rfl, rfl, false, congrArg V.bl htst, iteF ?_⟩
      refine ⟨_, rfl, _, rfl, _, _, _, _, rfl, hpr1, T.cl_Processor, T.t_Processor_bar, (by simp), ?_⟩
      have sp3 := sp1.put2 (y := prI K A c.kept)
      obtain ⟨db, d0, fl0, mg0, hbo, _⟩ := (BoardAt.up sp3.ext ow.fb).ex
      have hpr3 := sp3.c2
      refine ⟨_, rfl, _, _, _, _, _, rfl, hpr3, T.cl_Processor, T.t_Processor_board, rfl, A.bo, db, _, rfl, hbo, rfl, _, rfl, A.bo, A.su, A.r, A.u, S, c.line, K0, s.und, _, rfl, ow.fb, hl, sp3.swap, fun H3 sp4 => ?_⟩
      have sp5 := sp4.swap
      refine ⟨_, rfl, small8 (by simp), fun t2 ht2 => ?_⟩
      have sp6 := sp5.keep (o := .tup [.str "end", .str c.line.name]) ht2
      have g6 := sp5.newk (o := .tup [.str "end", .str c.line.name]) ht2
      refine ⟨small8 (by simp), fun p hp => ?_⟩
      have sp7 := sp6.keep (o := .lst [.ref t2]) hp
      have g7 := sp6.newk (o := .lst [.ref t2]) hp
      have g67 := Same.tr g6 g7
      refine q _ _ p [.ref t2] [.fin c.line] { s with stack := rest, bar := c.kept, und := fset s.und c.line.name false } g67 (ow.mk2 (s := { s with stack := rest, bar := c.kept, und := fset s.und c.line.name false }) g67 ⟨sv', rv, h4.mono fun _ _ z => CallAt.up g67 z, h2.mono fun _ _ z => RowAt.up g67 z, sp7⟩) upd_same (.cons ⟨t2, rfl, t_of (g7 _ _ upd_same)⟩ .nil) (by rw [hgo, if_neg (by omega), hdl])
end
end Cb

namespace Cb
open PySem PySem.Spec PyProof.Rows L2

def spP_spend_beside (K : PySem.W.Frag) : Sp := fun vs H Q _ => ∃ (A : Ad) (S : SetD) (K0 : Hp) (s : StD) (M : List (Addr × HO)), vs = [.ref A.pr] ∧ Own K A S K0 H s M ∧ s.rows = [] ∧
  PostE K A S K0 M Q fun s' evs => (s', evs) = ({ s with c3 := s.c3 + 1 }, [])
def spP_spend (K : PySem.W.Frag) : Sp := fun vs H Q _ => ∃ (A : Ad) (S : SetD) (K0 : Hp) (s : StD) (M : List (Addr × HO)), vs = [.ref A.pr] ∧ Own K A S K0 H s M ∧ GoodP S s ∧ PlainS S ∧ s.stack.length ≤ 3900 ∧
  PostE K A S K0 M Q fun s' evs => (s', evs) = spendP s
def spP_go_on (K : PySem.W.Frag) : Sp := spP_spend K
def takeP (s : StD) : List LineD → StD × List Ev
  | [] => (s, [])
  | l :: _ => if floorP s < l.rank then ((goP (beginP s l)).1, .bgn l :: (goP (beginP s l)).2) else (s, [])
def spP_take (K : PySem.W.Frag) : Sp := fun vs H Q _ => ∃ (A : Ad) (S : SetD) (K0 : Hp) (s : StD) (M : List (Addr × HO)) (lp : Addr) (ls : List LineD), vs = [.ref A.pr, .ref lp] ∧ Own K A S K0 H s M ∧ GoodP S s ∧ PlainS S ∧ s.stack.length ≤ 3800 ∧ K0 lp = some (.lst (names ls)) ∧ (∀ l ∈ ls, l ∈ S.ls) ∧
  ∀ K1 H' p ev evs s', Same K0 K1 → Own K A S K1 H' s' ((p, .lst ev) :: M) → Paired (EvAt K K1) ev evs → (s', evs) = takeP s ls → Q (.ref p) H'
theorem goP_len (s : StD) : (goP s).2.length ≤ 1 := by
  unfold goP
  split
  · simp
  · split <;> simp
theorem spendP_len (s : StD) : (spendP s).2.length ≤ 1 := by
  unfold spendP
  split
  · simp
  · split
    · simp
    · exact goP_len _

section
variable {P : Program} {w : World} {K : PySem.W.Frag} {mg : Str → Option Value} {base : Heap}

abbrev NP_Processor_spend_beside_calls : List Str := ["self", "work"]
theorem scP_Processor_spend_beside_calls : FnScope NP_Processor_spend_beside_calls ["self"] (C8.fnScope s_Processor_spend_beside_calls) := C8.fnScope_by (by decide +kernel)
theorem okP_Processor_spend_beside_calls {fd : FuncData} (T : Txt K mg) (F : FunD K "_spend_beside_calls" "Processor._spend_beside_calls" (C8.fnArgs s_Processor_spend_beside_calls) (C8.fnBody s_Processor_spend_beside_calls) (C8.fnScope s_Processor_spend_beside_calls) [] [] (He.ma K (aC "Processor" K) "_spend_beside_calls") fd) (c_is_empty : C8.Met P w K mg base 1 (aC "WorkQueue" K) "is_empty" (sp_WorkQueue_is_empty K) []) (c_jspend : C8.Met P w K mg base 1 (aC "WorkQueue" K) "spend" (sp_WorkQueue_spend K) []) :
    C8.Met P w K mg base 2 (aC "Processor" K) "_spend_beside_calls" (spP_spend_beside K) [] := by
  refine C8.met0 T.cl_Processor T.m_Processor_spend_beside_calls (fun_c8 F) (F.bindsN fun _ _ _ _ _ _ us hl => match us, hl with | [_], _ => rfl) scP_Processor_spend_beside_calls (fun vs H Q E h => ?_) (fun cdv A outer s H vs Q E hr h => ?_)
  · obtain ⟨_, _, _, _, _, rfl, _⟩ := h
    rfl
  · have nd := scP_Processor_spend_beside_calls.nd
    have hu := hu_of hr
    obtain ⟨A, S, K0, s, M, rfl, ow, hrw, q⟩ := h
    refine ⟨_, (pss_cons (ps_if (pt_val (C8.pe_mt0 c_is_empty hr (by decide) (pe_fld (pv 0) rfl))) (pss_cons (ps_augS (pe_fld (pv 0) rfl) (C8.pe_gc rfl T.k_IDLE) get_list pe_int ip_add set_list)
      (pss_one (ps_ret (pe_lst pa_nil)))) pss_nil)
      (pss_cons (ps_augS (pe_fld (pv 0) rfl) (C8.pe_gc rfl T.k_WORKED) get_list pe_int ip_add set_list)
      (pss_cons (ps_set (i := 1) nd rfl (Or.inl rfl) (C8.pe_mt0 c_jspend hr (by decide) (pe_fld (pv 0) rfl)))
      (pss_one (ps_ret (pe_ifExp (pt_cmpR op_isN (pv 1) pe_non (nomark _)) (pe_lst pa_nil) (pe_lst (pa_cons (pe_tup (pa_cons pe_str (pa_cons (pv 1) pa_nil))) pa_nil)))))))), ?_⟩
    obtain ⟨sv, rv, h1, h2, sp⟩ := ow.ex
    have hpr := sp.c2
    obtain ⟨dj, rk, ln, j1, _⟩ := (JobsAt.up sp.ext ow.fj).ex
    refine ⟨_, rfl, _, _, _, _, _, rfl, hpr, T.cl_Processor, T.t_Processor_jobs, rfl, A.jo, dj, _, rfl, j1, rfl, A.jo, A.ro, S.ws, rv, rfl, JobsAt.up sp.ext ow.fj, sp.c4, rv.isEmpty, rfl, ?_⟩
    have h2' := h2
    rw [hrw] at h2'
    cases h2'
    refine iteT ?_
    refine ⟨_, rfl, _, _, _, _, _, rfl, hpr, T.cl_Processor, T.t_Processor_counts, rfl, _, _, 3, _, rfl, rfl, l_of sp.c5, rfl, _, _, rfl, rfl, ?_⟩
    refine ⟨_, _, _, 3, rfl, rfl, sp.c5, rfl, ?_⟩
    have sp1 := sp.put5 (y := .lst [.int s.c0, .int s.c1, .int s.c2, .int (s.c3 + 1)])
    refine ⟨Nat.zero_le _, fun p hp => ?_⟩
    have sp2 := sp1.keep (o := .lst []) hp
    have g := sp1.newk (o := .lst []) hp
    have ow2 : Own K A S _ _ { s with c3 := s.c3 + 1 } M := ow.mk2 (s := { s with c3 := s.c3 + 1 }) g ⟨sv, [], h1.mono fun _ _ z => CallAt.up g z, h2.mono fun _ _ z => RowAt.up g z, sp2⟩
    exact q _ _ p [] [] _ g ow2 upd_same .nil rfl
abbrev NP_Processor_spend : List Str := ["self", "line", "step", "ticks", "kept", "word", "what"]
theorem scP_Processor_spend : FnScope NP_Processor_spend ["self"] (C8.fnScope s_Processor_spend) := C8.fnScope_by (by decide +kernel)
theorem okP_Processor_spend {fd : FuncData} (T : Txt K mg) (F : FunD K "_spend" "Processor._spend" (C8.fnArgs s_Processor_spend) (C8.fnBody s_Processor_spend) (C8.fnScope s_Processor_spend) [] [] (He.ma K (aC "Processor" K) "_spend") fd) (c_spend_beside_calls : C8.Met P w K mg base 2 (aC "Processor" K) "_spend_beside_calls" (spP_spend_beside K) []) (c_present_step : C8.Met P w K mg base 4 (aC "Processor" K) "_present_step" (sp_Processor_present_step K) []) (c_go_through : C8.Met P w K mg base 4 (aC "Processor" K) "_go_through" (spP_go_through K) []) :
    C8.Met P w K mg base 6 (aC "Processor" K) "_spend" (spP_spend K) [] := by
  refine C8.met0 T.cl_Processor T.m_Processor_spend (fun_c8 F) (F.bindsN fun _ _ _ _ _ _ us hl => match us, hl with | [_], _ => rfl) scP_Processor_spend (fun vs H Q E h => ?_) (fun cdv A outer s H vs Q E hr h => ?_)
  · obtain ⟨_, _, _, _, _, rfl, _⟩ := h
    rfl
  · have nd := scP_Processor_spend.nd
    have hu := hu_of hr
    obtain ⟨A, S, K0, s, M, rfl, ow, gd, hpl, hsl, q⟩ := h
    refine ⟨_, (pss_cons (ps_if (pt_not (pt_truth (pe_fld (pv 0) rfl) (by intro _; rfl))) (pss_one (ps_ret (C8.pe_mt0 c_spend_beside_calls hr (by decide) (pv 0)))) pss_nil)
      (pss_cons (ps_asg (pe_ix ix_list (pe_fld (pv 0) rfl) (pe_un un_neg pe_int) (fun _ _ => rfl)) (pg_tup rfl (pgs_cons (pg_name (i := 1) nd rfl (Or.inl rfl)) (pgs_cons (pg_name (i := 2) nd rfl (Or.inl rfl)) (pgs_cons (pg_name (i := 3) nd rfl (Or.inl rfl)) (pgs_cons (pg_name (i := 4) nd rfl (Or.inl rfl)) pgs_nil))))))
      (pss_cons (ps_asg (C8.pe_mt0 c_present_step hr (by decide) (pv 0)) (pg_tup rfl (pgs_cons (pg_name (i := 5) nd rfl (Or.inl rfl)) (pgs_cons (pg_name (i := 6) nd rfl (Or.inl rfl)) pgs_nil))))
      (pss_cons (ps_if (pt_cmpR op_eq (pv 5) pe_str (nomark _)) (pss_cons ps_never
      (pss_one (ps_ret (pe_lst pa_nil)))) pss_nil)
      (pss_cons (ps_augS (pe_fld (pv 0) rfl) (C8.pe_gc rfl T.k_CALLED) get_list pe_int ip_add set_list)
      (pss_cons (ps_if (pt_cmpR op_lt (pe_op op_add (pv 3) pe_int) (pv 6) (nomark _)) (pss_cons (ps_asg (pe_tup (pa_cons (pv 1) (pa_cons (pv 2) (pa_cons (pe_op op_add (pv 3) pe_int) (pa_cons (pv 4) pa_nil))))) (pg_sub (pe_fld (pv 0) rfl) (pe_un un_neg pe_int) set_list))
      (pss_one (ps_ret (pe_lst pa_nil)))) pss_nil)
      (pss_cons (ps_asg (pe_tup (pa_cons (pv 1) (pa_cons (pe_op op_add (pv 2) pe_int) (pa_cons pe_int (pa_cons (pv 4) pa_nil))))) (pg_sub (pe_fld (pv 0) rfl) (pe_un un_neg pe_int) set_list))
      (pss_one (ps_ret (C8.pe_mt0 c_go_through hr (by decide) (pv 0))))))))))), ?_⟩
    obtain ⟨sv, rv, h1, h2, sp⟩ := ow.ex
    have hpr := sp.c2
    rcases List.eq_nil_or_concat s.stack with e1 | ⟨rest, c, e1⟩
    · have h1' := h1
      rw [e1] at h1'
      cases h1'
      have hsp : spendP s = ({ s with c3 := s.c3 + 1 }, []) := by unfold spendP; rw [e1]; rfl
      refine ⟨_, rfl, _, _, _, _, _, rfl, hpr, T.cl_Processor, T.t_Processor_stack, rfl, false, .inl ⟨_, l_of sp.c3, rfl⟩, iteT ?_⟩
      refine ⟨_, rfl, A.pr, A.dp, _, rfl, hpr, rfl, A, S, K0, s, M, rfl, ow, gd.rows, fun K1 H1 p ev evs s1 g ow1 hp he hR => ?_⟩
      exact q K1 H1 p ev evs s1 g ow1 hp he (hR.trans hsp.symm)
    rw [List.concat_eq_append] at e1
    have h1' := h1
    rw [e1] at h1'
    obtain ⟨sv', v, e2, h4, t, rfl, ht⟩ := psnoc h1'
    have hco := gd.calls c (by rw [e1]; simp)
    obtain ⟨n, hn, hn0, hn1⟩ := hco.st
    have hdl : s.stack.dropLast = rest := by rw [e1]; simp
    have hst : stepT c = n := by unfold stepT; rw [hn]
    have hsp : spendP s = if c.ticks + 1 < n then ({ s with c0 := s.c0 + 1, stack := rest ++ [{ c with ticks := c.ticks + 1 }] }, []) else goP { s with c0 := s.c0 + 1, stack := rest ++ [{ c with step := c.step + 1, ticks := 0 }] } := by
      unfold spendP
      rw [e1]
      simp [hst]
    have hc3 := sp.c3
    rw [e2] at hc3
    refine ⟨_, rfl, _, _, _, _, _, rfl, hpr, T.cl_Processor, T.t_Processor_stack, rfl, true, .inl ⟨_, l_of hc3, by simp⟩, iteF ?_⟩
    refine ⟨_, rfl, _, _, _, _, _, rfl, hpr, T.cl_Processor, T.t_Processor_stack, rfl, _, rfl, _, _, _, _, rfl, rfl, l_of hc3, atIm, ?_⟩
    refine ⟨_, _, rfl, Same.tup sp.ext ht, rfl, _, _, rfl, _, _, rfl, _, _, rfl, _, _, rfl, rfl, ?_⟩
    refine ⟨_, rfl, A.pr, A.dp, _, rfl, hpr, rfl, A, S, K0, s, M, rest, c, .run n, rfl, ow, e1, hco.ln, hn, fun v H1 g1 hv => ?_⟩
    obtain ⟨a, rfl, ha⟩ := hv
    have sp1 := sp.grow g1
    have hpr1 := sp1.c2
    have hc31 := g1 _ _ hc3
    refine ⟨_, _, rfl, Same.tup sp1.ext ha, rfl, _, _, rfl, _, _, rfl, rfl, ?_⟩
    refine ⟨_, rfl, rfl, false, rfl, iteF ?_⟩
    refine ⟨_, rfl, _, _, _, _, _, rfl, hpr1, T.cl_Processor, T.t_Processor_counts, rfl, _, _, 0, _, rfl, rfl, l_of sp1.c5, rfl, _, _, rfl, rfl, ?_⟩
    refine ⟨_, _, _, 0, rfl, rfl, sp1.c5, rfl, ?_⟩
    have sp2 := sp1.put5 (y := .lst [.int (s.c0 + 1), .int s.c1, .int s.c2, .int s.c3])
    have hpr2 := sp2.c2
    refine ⟨_, rfl, _, _, rfl, rfl, _, rfl, _, _, rfl, rfl, decide (c.ticks + 1 < n), rfl, ?_⟩
    by_cases hlt : c.ticks + 1 < n
    · rw [decide_eq_true hlt]
      rw [if_pos hlt] at hsp
      refine iteT ⟨_, rfl, _, rfl, _, rfl, _, _, rfl, rfl, _, rfl, small8 (by simp), fun t2 ht2 => ?_⟩
      have sp3 := sp2.keep (o := .tup [.str c.line.name, .int (c.step : Nat), .int (c.ticks + 1), .int c.kept]) ht2
      have g3 := sp2.newk (o := .tup [.str c.line.name, .int (c.step : Nat), .int (c.ticks + 1), .int c.kept]) ht2
      have hpr3 := sp3.c2
      have hc33 := sp3.c3
      rw [e2] at hc33
      refine ⟨_, rfl, _, _, _, _, _, rfl, hpr3, T.cl_Processor, T.t_Processor_stack, rfl, _, rfl, _, _, _, _, rfl, rfl, hc33, ixNm, ?_⟩
      rw [set_last]
      have sp4 := sp3.put3 (y := .lst (sv' ++ [.ref t2]))
      refine ⟨Nat.zero_le _, fun p hp => ?_⟩
      have sp5 := sp4.keep (o := .lst []) hp
      have g5 := sp4.newk (o := .lst []) hp
      have g := Same.tr g3 g5
      have ow4 : Own K A S _ _ { s with c0 := s.c0 + 1, stack := rest ++ [{ c with ticks := c.ticks + 1 }] } M := ow.mk2 (s := { s with c0 := s.c0 + 1, stack := rest ++ [{ c with ticks := c.ticks + 1 }] }) g ⟨sv' ++ [.ref t2], rv, Paired.snoc (h4.mono fun _ _ z => CallAt.up g z) ⟨t2, rfl, t_of (g5 _ _ upd_same)⟩, h2.mono fun _ _ z => RowAt.up g z, sp5⟩
      exact q _ _ p [] [] _ g ow4 upd_same .nil hsp.symm
    · rw [decide_eq_false hlt]
      rw [if_neg hlt] at hsp
      refine iteF ?_
      refine ⟨_, rfl, _, rfl, _, _, rfl, rfl, _, rfl, small8 (by simp), fun t2 ht2 => ?_⟩
      have sp3 := sp2.keep (o := .tup [.str c.line.name, .int ((c.step + 1 : Nat)), .int 0, .int c.kept]) ht2
      have g3 := sp2.newk (o := .tup [.str c.line.name, .int ((c.step + 1 : Nat)), .int 0, .int c.kept]) ht2
      have hpr3 := sp3.c2
      have hc33 := sp3.c3
      rw [e2] at hc33
      refine ⟨_, rfl, _, _, _, _, _, rfl, hpr3, T.cl_Processor, T.t_Processor_stack, rfl, _, rfl, _, _, _, _, rfl, rfl, hc33, ixNm, ?_⟩
      rw [set_last]
      have sp4 := sp3.put3 (y := .lst (sv' ++ [.ref t2]))
      have hpr4 := sp4.c2
      have ow4 : Own K A S _ _ { s with c0 := s.c0 + 1, stack := rest ++ [{ c with step := c.step + 1, ticks := 0 }] } M := ow.mk2 (s := { s with c0 := s.c0 + 1, stack := rest ++ [{ c with step := c.step + 1, ticks := 0 }] }) g3 ⟨sv' ++ [.ref t2], rv, Paired.snoc (h4.mono fun _ _ z => CallAt.up g3 z) ⟨t2, rfl, t_of upd_same⟩, h2.mono fun _ _ z => RowAt.up g3 z, sp4⟩
      have hlt2 : c.step < c.line.steps.length := by
        rcases Nat.lt_or_ge c.step c.line.steps.length with z | z
        · exact z
        · rw [List.getElem?_eq_none z] at hn; cases hn
      refine ⟨_, rfl, A.pr, A.dp, _, rfl, hpr4, rfl, A, S, _, _, M, rest, { c with step := c.step + 1, ticks := 0 }, rfl, ow4, rfl, hco.ln, hlt2, hpl, ?_, fun K1 H1 p ev evs s1 g ow5 hp he R => ?_⟩
      · rw [e1] at hsl
        simpa using hsl
      · exact q K1 H1 p ev evs s1 (Same.tr g3 g) ow5 hp he (R.trans hsp.symm)
end
end Cb

namespace Cb
open PySem PySem.Spec PyProof.Rows L2

def readyN (S : SetD) (s : StD) : List Str := (S.order.filter s.rung).filter fun n => !s.und n
def lineOf (S : SetD) (n : Str) : List LineD := (S.ls.find? fun l => decide (l.name = n)).toList
def readyL (S : SetD) (s : StD) : List LineD := (readyN S s).flatMap (lineOf S)
theorem lineOf_eq {S : SetD} (h : SetOk S) {l : LineD} (m : l ∈ S.ls) : lineOf S l.name = [l] := by
  have nd := h.ok.nd
  unfold lineOf
  revert m nd
  generalize S.ls = ls
  intro m nd
  induction ls with
  | nil => cases m
  | cons a ls ih =>
    have n2 := List.nodup_cons.mp nd
    rcases List.mem_cons.mp m with e | m
    · subst e
      simp
    · have ne : a.name ≠ l.name := fun q => n2.1 (by show a.name ∈ _; rw [q]; exact List.mem_map_of_mem m)
      rw [List.find?_cons_of_neg (by simp [ne])]
      exact ih m n2.2
theorem flat_names {S : SetD} (h : SetOk S) : ∀ {ns : List Str}, (∀ n ∈ ns, n ∈ S.order) → names (ns.flatMap (lineOf S)) = ns.map V.str ∧ ∀ l ∈ ns.flatMap (lineOf S), l ∈ S.ls
  | [], _ => ⟨rfl, fun _ m => by cases m⟩
  | n :: ns, hn => by
    obtain ⟨l, hl, rfl⟩ := h.line (hn n List.mem_cons_self)
    obtain ⟨i1, i2⟩ := flat_names h (ns := ns) fun k m => hn k (List.mem_cons_of_mem _ m)
    rw [List.flatMap_cons, lineOf_eq h hl]
    refine ⟨?_, fun k m => ?_⟩
    · unfold names at i1 ⊢
      rw [List.map_append, i1]
      rfl
    · rcases List.mem_append.mp m with m | m
      · obtain rfl := List.mem_singleton.mp m
        exact hl
      · exact i2 k m
def tickP (S : SetD) (s : StD) : StD × List Ev := ((spendP (takeP s (readyL S s)).1).1, (takeP s (readyL S s)).2 ++ (spendP (takeP s (readyL S s)).1).2)
theorem goP_good {S : SetD} (hp : PlainS S) {s : StD} {rest : List CallD} {c : CallD} (e : s.stack = rest ++ [c]) (hr : ∀ c' ∈ rest, CallOk S c') (hl : c.line ∈ S.ls) (ht : c.ticks = 0) (hrow : s.rows = []) : GoodP S (goP s).1 ∧ (goP s).1.stack.length ≤ s.stack.length := by
  have hg : goP s = if c.step < c.line.steps.length then (s, []) else ({ s with stack := s.stack.dropLast, bar := c.kept, und := fset s.und c.line.name false }, [.fin c.line]) := by
    unfold goP
    rw [e]
    simp
  rw [hg]
  split
  · rename_i hj
    refine ⟨⟨fun c' m => ?_, hrow⟩, Nat.le_refl _⟩
    simp only [e] at m
    rcases List.mem_append.mp m with m | m
    · exact hr c' m
    · obtain rfl := List.mem_singleton.mp m
      have hstj : c'.line.steps[c'.step]? = some c'.line.steps[c'.step] := List.getElem?_eq_getElem hj
      obtain ⟨n, en, hn⟩ := hp c'.line hl _ (List.mem_of_getElem? hstj)
      exact ⟨hl, n, by rw [hstj, en], by omega, by omega⟩
  · refine ⟨⟨fun c' m => ?_, hrow⟩, by simp⟩
    simp only [e, List.dropLast_concat] at m
    exact hr c' m
theorem takeP_good {S : SetD} (hp : PlainS S) {s : StD} (g : GoodP S s) {ls : List LineD} (hls : ∀ l ∈ ls, l ∈ S.ls) : GoodP S (takeP s ls).1 ∧ (takeP s ls).1.stack.length ≤ s.stack.length + 1 ∧ (takeP s ls).2.length ≤ 2 := by
  cases ls with
  | nil => exact ⟨g, by simp [takeP], by simp [takeP]⟩
  | cons l ls =>
    have e : takeP s (l :: ls) = if floorP s < l.rank then ((goP (beginP s l)).1, .bgn l :: (goP (beginP s l)).2) else (s, []) := rfl
    rw [e]
    by_cases hf : floorP s < l.rank
    · rw [if_pos hf]
      have z := goP_good hp (s := beginP s l) (rest := s.stack) (c := ⟨l, 0, 0, s.bar⟩) rfl g.calls (hls l List.mem_cons_self) rfl g.rows
      have y := goP_len (beginP s l)
      refine ⟨z.1, ?_, by simp; omega⟩
      have := z.2
      simpa [beginP] using this
    · rw [if_neg hf]
      exact ⟨g, by simp, by simp⟩
theorem spendP_good {S : SetD} (hp : PlainS S) {s : StD} (g : GoodP S s) : GoodP S (spendP s).1 ∧ (spendP s).1.stack.length ≤ s.stack.length := by
  rcases List.eq_nil_or_concat s.stack with e1 | ⟨rest, c, e1⟩
  · unfold spendP
    rw [e1]
    exact ⟨⟨fun c m => by simp [e1] at m, g.rows⟩, by simp [e1]⟩
  · rw [List.concat_eq_append] at e1
    have hco := g.calls c (by rw [e1]; simp)
    have hr : ∀ c' ∈ rest, CallOk S c' := fun c' m => g.calls c' (by rw [e1]; exact List.mem_append_left _ m)
    obtain ⟨n, hn, hn0, hn1⟩ := hco.st
    have hst : stepT c = n := by unfold stepT; rw [hn]
    have hsp : spendP s = if c.ticks + 1 < n then ({ s with c0 := s.c0 + 1, stack := rest ++ [{ c with ticks := c.ticks + 1 }] }, []) else goP { s with c0 := s.c0 + 1, stack := rest ++ [{ c with step := c.step + 1, ticks := 0 }] } := by
      unfold spendP
      rw [e1]
      simp [hst]
    rw [hsp]
    split
    · rename_i hlt
      refine ⟨⟨fun c' m => ?_, g.rows⟩, by simp [e1]⟩
      rcases List.mem_append.mp m with m | m
      · exact hr c' m
      · obtain rfl := List.mem_singleton.mp m
        exact ⟨hco.ln, n, hn, by simp; omega, hlt⟩
    · have z := goP_good hp (s := { s with c0 := s.c0 + 1, stack := rest ++ [{ c with step := c.step + 1, ticks := 0 }] }) (rest := rest) (c := { c with step := c.step + 1, ticks := 0 }) rfl hr hco.ln rfl g.rows
      refine ⟨z.1, ?_⟩
      have := z.2
      simp at this
      simp [e1]
      omega

section
variable {P : Program} {w : World} {K : PySem.W.Frag} {mg : Str → Option Value} {base : Heap}

def spP_tick (K : PySem.W.Frag) : Sp := fun vs H Q _ => ∃ (A : Ad) (S : SetD) (K0 : Hp) (s : StD) (si dx : Addr) (now : Int) (M : List (Addr × HO)), vs = [.ref si] ∧ Own K A S K0 H s ((si, siI K A dx now) :: M) ∧ GoodP S s ∧ PlainS S ∧ s.stack.length ≤ 3700 ∧
  ∀ K1 H' p ev evs s', Same K0 K1 → Own K A S K1 H' s' ((si, siI K A dx (now + 1)) :: M) → K1 p = some (.lst ev) → Paired (EvAt K K1) ev evs → (s', evs) = tickP S s → Q (.ref p) H'

abbrev NP_Processor_go_on : List Str := ["self", "events"]
theorem scP_Processor_go_on : FnScope NP_Processor_go_on ["self"] (C8.fnScope s_Processor_go_on) := C8.fnScope_by (by decide +kernel)
theorem okP_Processor_go_on {fd : FuncData} (T : Txt K mg) (F : FunD K "go_on" "Processor.go_on" (C8.fnArgs s_Processor_go_on) (C8.fnBody s_Processor_go_on) (C8.fnScope s_Processor_go_on) [] [] (He.ma K (aC "Processor" K) "go_on") fd) (c_passes_flag : C8.Met P w K mg base 5 (aC "Processor" K) "_passes_flag" (sp_Processor_passes_flag K) []) (c_pspend : C8.Met P w K mg base 6 (aC "Processor" K) "_spend" (spP_spend K) []) :
    C8.Met P w K mg base 7 (aC "Processor" K) "go_on" (spP_go_on K) [] := by
  refine C8.met0 T.cl_Processor T.m_Processor_go_on (fun_c8 F) (F.bindsN fun _ _ _ _ _ _ us hl => match us, hl with | [_], _ => rfl) scP_Processor_go_on (fun vs H Q E h => ?_) (fun cdv A outer s H vs Q E hr h => ?_)
  · obtain ⟨_, _, _, _, _, rfl, _⟩ := h
    rfl
  · have nd := scP_Processor_go_on.nd
    have hu := hu_of hr
    obtain ⟨A, S, K0, s, M, rfl, ow, gd, hpl, hsl, q⟩ := h
    refine ⟨_, (pss_cons (ps_set (i := 1) nd rfl (Or.inl rfl) (pe_lst pa_nil))
      (pss_cons (ps_while PassesOwn.never (pt_val (C8.pe_mt0 c_passes_flag hr (by decide) (pv 0))) (pss_one ps_never))
      (pss_cons (ps_expr (pe_bm PySem.F.plainAttrs_list PySem.F.slot_list_extend PySem.F.type_list_extend mt_extend (pv 1) (pa_cons (C8.pe_mt0 c_pspend hr (by decide) (pv 0)) pa_nil)))
      (pss_one (ps_ret (pv 1)))))), ?_⟩
    refine ⟨Nat.zero_le _, fun p1 hp1 => ?_⟩
    obtain ⟨sv, rv, h1, h2, sp⟩ := ow.ex
    have ow1 : Own K A S K0 _ s ((p1, .lst []) :: M) := ow.mk2 (s := s) (Same.refl K0) ⟨sv, rv, h1, h2, (sp.own (o := .lst []) hp1).dn6⟩
    refine ⟨fun m σ H' => m = 0 ∧ σ = [some (.ref A.pr), some (.ref p1)] ∧ Own K A S K0 H' s ((p1, .lst []) :: M), ⟨0, rfl, rfl, ow1⟩, ?_⟩
    rintro m σ H1 ⟨rfl, rfl, ow2⟩
    obtain ⟨sv2, rv2, k1, k2, sp2⟩ := ow2.ex
    refine ⟨_, rfl, A.pr, A.dp, _, rfl, sp2.c2, rfl, A, S, K0, s, _, rfl, ow2, fun c m => ?_, fun H2 g2 => ⟨_, rfl, iteF ?_⟩⟩
    · obtain ⟨n, hn, _⟩ := (gd.calls c m).st
      exact ⟨(gd.calls c m).ln, _, hn⟩
    have ow3 := ow2.grow g2
    have sp3 := sp2.grow g2
    have hp13 := sp3.up6.c0
    refine ⟨_, rfl, .inl ⟨rfl, _, .inl (.inl hp13)⟩, _, rfl, A.pr, A.dp, _, rfl, sp3.c2, rfl, A, S, K0, s, _, rfl, ow3, gd, hpl, hsl, fun K1 H3 p ev evs s1 g ow4 hp he R => ?_⟩
    obtain ⟨sv4, rv4, m1, m2, sp4⟩ := ow4.ex
    have hlen := he.length
    have hel : evs.length ≤ 1 := by
      have := spendP_len s
      rw [← R] at this
      exact this
    refine ⟨_, _, _, _, rfl, rfl, sp4.up6.c0, sp4.ext _ _ hp, Nat.le_of_lt (sm (m := 9) (by simp; omega) (by decide)), ?_⟩
    have sp5 := sp4.up6.put0 (o' := .lst ([] ++ ev))
    have g5 := sp5.new0
    have ow5 : Own K A S _ _ s1 M := ow4.mk2 (s := s1) g5 ⟨sv4, rv4, m1.mono fun _ _ z => CallAt.up g5 z, m2.mono fun _ _ z => RowAt.up g5 z, sp5.freeze⟩
    exact ⟨_, rfl, q _ _ p1 ev evs s1 (Same.tr g g5) ow5 (by rw [List.nil_append]; exact upd_same) (he.mono fun _ _ z => EvAt.up g5 z) R⟩
abbrev NP_Processor_take : List Str := ["self", "lines", "line"]
theorem scP_Processor_take : FnScope NP_Processor_take ["self", "lines"] (C8.fnScope s_Processor_take) := C8.fnScope_by (by decide +kernel)
theorem okP_Processor_take {fd : FuncData} (T : Txt K mg) (F : FunD K "take" "Processor.take" (C8.fnArgs s_Processor_take) (C8.fnBody s_Processor_take) (C8.fnScope s_Processor_take) [] [] (He.ma K (aC "Processor" K) "take") fd) (c_lets_by : C8.Met P w K mg base 4 (aC "Processor" K) "_lets_by" (spP_lets_by K) []) (c_begin : C8.Met P w K mg base 5 (aC "Board" K) "begin" (sp_Board_begin K) []) (c_go_through : C8.Met P w K mg base 4 (aC "Processor" K) "_go_through" (spP_go_through K) []) :
    C8.Met P w K mg base 6 (aC "Processor" K) "take" (spP_take K) [] := by
  refine C8.met0 T.cl_Processor T.m_Processor_take (fun_c8 F) (F.bindsN fun _ _ _ _ _ _ us hl => match us, hl with | [_, _], _ => rfl) scP_Processor_take (fun vs H Q E h => ?_) (fun cdv A outer s H vs Q E hr h => ?_)
  · obtain ⟨_, _, _, _, _, _, _, rfl, _⟩ := h
    rfl
  · have nd := scP_Processor_take.nd
    have hu := hu_of hr
    obtain ⟨A, S, K0, s, M, lp, ls, rfl, ow, gd, hpl, hsl, hlp, hls, q⟩ := h
    refine ⟨_, (pss_cons (ps_if (PW.pt (pw_or (pt_not (pt_truth (pv 1) (by intro _; rfl))) (pw_or1 (pt_not (pt_val (C8.pe_mt c_lets_by hr (by decide) (pv 0) (pa_cons (pe_ix ix_list (pv 1) pe_int (fun _ _ => rfl)) pa_nil))))))) (pss_one (ps_ret (pe_lst pa_nil))) pss_nil)
      (pss_cons (ps_set (i := 2) nd rfl (Or.inl rfl) (pe_ix ix_list (pv 1) pe_int (fun _ _ => rfl)))
      (pss_cons (ps_expr (C8.pe_mt c_begin hr (by decide) (pe_fld (pv 0) rfl) (pa_cons (pv 2) pa_nil)))
      (pss_cons (ps_expr (pe_bm PySem.F.plainAttrs_list PySem.F.slot_list_append PySem.F.type_list_append mt_append (pe_fld (pv 0) rfl) (pa_cons (pe_tup (pa_cons (pv 2) (pa_cons pe_int (pa_cons pe_int (pa_cons (pe_fld (pv 0) rfl) pa_nil))))) pa_nil)))
      (pss_one (ps_ret (pe_lst (pa_cons (pe_tup (pa_cons pe_str (pa_cons (pv 2) pa_nil))) (StX.pa_star (C8.pe_mt0 c_go_through hr (by decide) (pv 0)) pa_nil))))))))), ?_⟩
    obtain ⟨sv, rv, h1, h2, sp⟩ := ow.ex
    have hpr := sp.c2
    have hlp1 := sp.ext _ _ hlp
    cases ls with
    | nil =>
      refine ⟨_, rfl, false, .inl ⟨_, l_of hlp1, rfl⟩, iteT ?_⟩
      refine ⟨Nat.zero_le _, fun p hp => ?_⟩
      have ow2 : Own K A S K0 _ s ((p, .lst []) :: M) := ow.mk2 (s := s) (Same.refl K0) ⟨sv, rv, h1, h2, (sp.own (o := .lst []) hp).dn6⟩
      exact q K0 _ p [] [] s (Same.refl K0) ow2 .nil rfl
    | cons l ls =>
    have hl := hls l List.mem_cons_self
    have htk : takeP s (l :: ls) = if floorP s < l.rank then ((goP (beginP s l)).1, .bgn l :: (goP (beginP s l)).2) else (s, []) := rfl
    refine ⟨_, rfl, true, .inl ⟨_, l_of hlp1, rfl⟩, iteF ?_⟩
    refine ⟨_, rfl, A.pr, A.dp, _, rfl, hpr, rfl, _, rfl, _, _, _, _, rfl, rfl, l_of hlp1, atI0, A, S, K0, s, M, l, rfl, ow, hl, fun c m => (gd.calls c m).ln, decide (floorP s < l.rank), rfl, ?_⟩
    by_cases hf : floorP s < l.rank
    case neg =>
      rw [decide_eq_false hf]
      refine iteT ?_
      rw [if_neg hf] at htk
      refine ⟨Nat.zero_le _, fun p hp => ?_⟩
      have ow2 : Own K A S K0 _ s ((p, .lst []) :: M) := ow.mk2 (s := s) (Same.refl K0) ⟨sv, rv, h1, h2, (sp.own (o := .lst []) hp).dn6⟩
      exact q K0 _ p [] [] s (Same.refl K0) ow2 .nil htk.symm
    rw [decide_eq_true hf]
    rw [if_pos hf] at htk
    refine iteF ?_
    refine ⟨_, rfl, _, _, _, _, rfl, rfl, l_of hlp1, atI0, ?_⟩
    obtain ⟨db, d0, fl0, mg0, hbo, _⟩ := (BoardAt.up sp.ext ow.fb).ex
    refine ⟨_, rfl, _, _, _, _, _, rfl, hpr, T.cl_Processor, T.t_Processor_board, rfl, A.bo, db, _, rfl, hbo, rfl, _, rfl, A.bo, A.su, A.r, A.u, S, l, K0, s.rung, s.und, _, rfl, ow.fb, hl, sp, fun H1 sp1 => ?_⟩
    have hpr1 := sp1.c2
    refine ⟨_, rfl, _, _, _, _, _, rfl, hpr1, T.cl_Processor, T.t_Processor_stack, rfl, .inl ⟨rfl, _, .inl (.inl sp1.c3)⟩, _, rfl, _, rfl, _, _, _, _, _, rfl, hpr1, T.cl_Processor, T.t_Processor_bar, rfl, small8 (by simp), fun t2 ht2 => ?_⟩
    have sp2 := sp1.keep (o := .tup [.str l.name, .int 0, .int 0, .int s.bar]) ht2
    have g2 := sp1.newk (o := .tup [.str l.name, .int 0, .int 0, .int s.bar]) ht2
    refine ⟨_, _, _, rfl, rfl, sp2.c3, sm (m := 4000) (by have := h1.length; omega) (by decide), ?_⟩
    have sp3 := sp2.put3 (y := .lst (sv ++ [.ref t2]))
    refine ⟨_, rfl, small8 (by simp), fun t3 ht3 => ?_⟩
    have sp4 := sp3.keep (o := .tup [.str "begin", .str l.name]) ht3
    have g4 := sp3.newk (o := .tup [.str "begin", .str l.name]) ht3
    have g := Same.tr g2 g4
    have ow4 : Own K A S _ _ (beginP s l) M := ow.mk2 (s := beginP s l) g ⟨sv ++ [.ref t2], rv, Paired.snoc (h1.mono fun _ _ z => CallAt.up g z) ⟨t2, rfl, t_of (g4 _ _ upd_same)⟩, h2.mono fun _ _ z => RowAt.up g z, sp4⟩
    refine ⟨_, rfl, A.pr, A.dp, _, rfl, sp4.c2, rfl, A, S, _, _, M, s.stack, ⟨l, 0, 0, s.bar⟩, rfl, ow4, rfl, hl, Nat.zero_le _, hpl, (by show (s.stack ++ [_]).length ≤ 3900; simp; omega), fun K1 H2 p ev evs s1 g5 ow5 hp he R => ?_⟩
    obtain ⟨sv5, rv5, m1, m2, sp5⟩ := ow5.ex
    have hel : evs.length ≤ 1 := by
      have := goP_len (beginP s l)
      rw [← R] at this
      exact this
    have hlen := he.length
    refine ⟨p, ev, rfl, .inr (l_of (sp5.ext _ _ hp)), Nat.le_of_lt (sm (m := 9) (by simp; omega) (by decide)), fun z hz => ?_⟩
    have sp6 := sp5.own (o := .lst (.ref t3 :: (ev ++ []))) hz
    have ow6 : Own K A S K1 _ s1 ((z, .lst (.ref t3 :: (ev ++ []))) :: M) := ow5.mk2 (s := s1) (Same.refl K1) ⟨sv5, rv5, m1, m2, sp6.dn6⟩
    refine q K1 _ z _ (.bgn l :: evs) s1 (Same.tr g g5) ow6 ?_ (by rw [htk, ← R])
    rw [List.append_nil]
    exact .cons ⟨t3, rfl, t_of (g5 _ _ upd_same)⟩ he
end
end Cb

namespace Cb
open PySem PySem.Spec PyProof.Rows L2

section
variable {P : Program} {w : World} {K : PySem.W.Frag} {mg : Str → Option Value} {base : Heap}

abbrev NP_Single_tick : List Str := ["self", "events"]
theorem scP_Single_tick : FnScope NP_Single_tick ["self"] (C8.fnScope s_Single_tick) := C8.fnScope_by (by decide +kernel)
theorem okP_Single_tick {fd : FuncData} (T : Txt K mg) (F : FunD K "tick" "Single.tick" (C8.fnArgs s_Single_tick) (C8.fnBody s_Single_tick) (C8.fnScope s_Single_tick) [] [] (He.ma K (aC "Single" K) "tick") fd) (c_take : C8.Met P w K mg base 6 (aC "Processor" K) "take" (spP_take K) []) (c_ready_lines : C8.Met P w K mg base 7 (aC "Board" K) "ready_lines" (sp_Board_ready_lines K) []) (c_go_on : C8.Met P w K mg base 7 (aC "Processor" K) "go_on" (spP_go_on K) []) :
    C8.Met P w K mg base 8 (aC "Single" K) "tick" (spP_tick K) [] := by
  refine C8.met0 T.cl_Single T.m_Single_tick (fun_c8 F) (F.bindsN fun _ _ _ _ _ _ us hl => match us, hl with | [_], _ => rfl) scP_Single_tick (fun vs H Q E h => ?_) (fun cdv A outer s H vs Q E hr h => ?_)
  · obtain ⟨_, _, _, _, _, _, _, _, rfl, _⟩ := h
    rfl
  · have nd := scP_Single_tick.nd
    have hu := hu_of hr
    obtain ⟨A, S, K0, s, si, dx, now, M, rfl, ow, gd, hpl, hsl, q⟩ := h
    refine ⟨_, (pss_cons (ps_set (i := 1) nd rfl (Or.inl rfl) (C8.pe_mt c_take hr (by decide) (pe_fld (pv 0) rfl) (pa_cons (C8.pe_mt0 c_ready_lines hr (by decide) (pe_fld (pv 0) rfl)) pa_nil)))
      (pss_cons (ps_expr (pe_bm PySem.F.plainAttrs_list PySem.F.slot_list_extend PySem.F.type_list_extend mt_extend (pv 1) (pa_cons (C8.pe_mt0 c_go_on hr (by decide) (pe_fld (pv 0) rfl)) pa_nil)))
      (pss_cons (ps_fldaug (pv 0) pe_int in_add)
      (pss_one (ps_ret (pv 1)))))), ?_⟩
    have hsi := ow.fr
    obtain ⟨sv, rv, h1, h2, sp⟩ := ow.ex
    have fb1 := BoardAt.up sp.ext ow.fb
    obtain ⟨db, d0, fl0, mg0, hbo, _⟩ := fb1.ex
    refine ⟨_, rfl, _, _, _, _, _, rfl, hsi, T.cl_Single, T.t_Single_processor, rfl, A.pr, A.dp, _, rfl, ow.pr, rfl, ?_⟩
    refine ⟨_, rfl, _, _, _, _, _, rfl, hsi, T.cl_Single, T.t_Single_board, rfl, A.bo, db, _, rfl, hbo, rfl, A.bo, A.su, A.r, A.u, S, s.rung, s.und, rfl, fb1, sp.c0, sp.c1, fun lp H1 g1 hlp hlp1 => ?_⟩
    have owf := (ow.ownM' g1 hlp hlp1).freezeM
    have hfn := flat_names ow.fb.ok (ns := readyN S s) fun n m => (List.mem_filter.mp (List.mem_filter.mp m).1).1
    have htg := takeP_good hpl gd (ls := readyL S s) hfn.2
    have hlz : upd K0 lp (.lst ((readyN S s).map V.str)) lp = some (.lst (names (readyL S s))) := by
      rw [upd_same]
      exact congrArg (fun z => some (HO.lst z)) hfn.1.symm
    refine ⟨A, S, _, s, _, lp, readyL S s, rfl, owf.1, gd, hpl, by omega, hlz, hfn.2, fun K1 H2 p ev evs s1 g2 ow2 he R => ?_⟩
    have R1 : s1 = (takeP s (readyL S s)).1 := congrArg Prod.fst R
    have R2 : evs = (takeP s (readyL S s)).2 := congrArg Prod.snd R
    have hsi2 := ow2.swapM.fr
    refine ⟨_, rfl, .inl ⟨rfl, _, .inl (.inl ow2.fr)⟩, _, rfl, _, _, _, _, _, rfl, hsi2, T.cl_Single, T.t_Single_processor, rfl, A.pr, A.dp, _, rfl, ow2.pr, rfl, A, S, K1, s1, _, rfl, ow2, R1 ▸ htg.1, hpl, by rw [R1]; have := htg.2.1; omega, fun K2 H3 p2 ev2 evs2 s2 g3 ow3 hp2 he2 hR2 => ?_⟩
    have l1 := he.length
    have l2 := he2.length
    have e1 : evs.length ≤ 2 := R2 ▸ htg.2.2
    have e2 : evs2.length ≤ 1 := by
      have := spendP_len s1
      rw [← hR2] at this
      exact this
    refine ⟨p, p2, ev, ev2, rfl, rfl, ow3.fr, ow3.same _ _ hp2, Nat.le_of_lt (sm (m := 9) (by omega) (by decide)), ?_⟩
    have ow4 := ow3.putM (o' := .lst (ev ++ ev2))
    have hsi4 := ow4.swapM.fr
    refine ⟨_, rfl, _, _, _, _, _, rfl, hsi4, T.cl_Single, T.t_Single_now, rfl, _, _, rfl, rfl, _, _, hsi4, by simp, ?_⟩
    have ow5 := ow4.swapM.putM (o' := siI K A dx (now + 1))
    obtain ⟨ow6, g6⟩ := ow5.swapM.freezeM
    have gA := Same.tr owf.2 (Same.tr g2 (Same.tr g3 g6))
    refine ⟨_, rfl, q _ _ p (ev ++ ev2) (evs ++ evs2) s2 gA ow6 upd_same (papp (he.mono fun _ _ z => EvAt.up (Same.tr g3 g6) z) (he2.mono fun _ _ z => EvAt.up g6 z)) ?_⟩
    have Q1 : s2 = (spendP s1).1 := congrArg Prod.fst hR2
    have Q2 : evs2 = (spendP s1).2 := congrArg Prod.snd hR2
    unfold tickP
    rw [Q1, Q2, R1, R2]
end
end Cb

namespace Cb
open PySem PySem.Spec PyProof.Rows L2
/-! lower ranks do not matter: the pure part -/
def upL (m : Int) (l : LineD) : Bool := decide (m ≤ l.rank)
def upC (m : Int) (c : CallD) : Bool := upL m c.line
def upE (m : Int) : Ev → Bool
  | .bgn l => upL m l
  | .fin l => upL m l
  | .dne _ => false
structure Bis (m : Int) (S : SetD) (s1 s2 : StD) : Prop where
  b1 : s1.bar = 0
  b2 : s2.bar = 0
  k1 : ∀ c ∈ s1.stack, c.kept = 0
  st : s2.stack = s1.stack.filter (upC m)
  asc : s1.stack.Pairwise fun a b => a.line.rank < b.line.rank
  rg : ∀ l ∈ S.ls, upL m l = true → s1.rung l.name = s2.rung l.name ∧ s1.und l.name = s2.und l.name
  g1 : GoodP S s1
theorem name_inj {S : SetD} (h : SetOk S) {a b : LineD} (ha : a ∈ S.ls) (hb : b ∈ S.ls) (e : a.name = b.name) : a = b := by
  have z := lineOf_eq h ha
  rw [e, lineOf_eq h hb] at z
  exact (List.cons.inj z).1.symm
theorem low_all {m : Int} {rest : List CallD} {c : CallD} (asc : (rest ++ [c]).Pairwise fun a b => a.line.rank < b.line.rank) (h : upC m c = false) : (rest ++ [c]).filter (upC m) = [] := by
  rw [List.filter_eq_nil_iff]
  intro d hd
  have hc : ¬ m ≤ c.line.rank := by simpa [upC, upL] using h
  rcases List.mem_append.mp hd with hd | hd
  · have := (List.pairwise_append.mp asc).2.2 d hd c (by simp)
    simp [upC, upL]
    omega
  · obtain rfl := List.mem_singleton.mp hd
    simp [h]
theorem floor_top {s : StD} {rest : List CallD} {c : CallD} (e : s.stack = rest ++ [c]) (hb : s.bar = 0) (hr : 1 ≤ c.line.rank) : floorP s = c.line.rank := by
  unfold floorP
  rw [e]
  simp [hb]
  omega
theorem floor_nil {s : StD} (e : s.stack = []) (hb : s.bar = 0) : floorP s = 0 := by
  unfold floorP
  rw [e]
  exact hb
theorem go_begin {s : StD} {l : LineD} (h : 1 ≤ l.steps.length) : goP (beginP s l) = (beginP s l, []) := by
  unfold goP
  have e : (beginP s l).stack.getLast? = some ⟨l, 0, 0, s.bar⟩ := by simp [beginP]
  rw [e]
  show (if (0 : Nat) < l.steps.length then (beginP s l, []) else _) = _
  rw [if_pos (by omega)]
theorem take_one {s : StD} {l : LineD} {r : List LineD} (h : 1 ≤ l.steps.length) : takeP s (l :: r) = if floorP s < l.rank then (beginP s l, [.bgn l]) else (s, []) := by
  show (if floorP s < l.rank then _ else _) = _
  rw [go_begin h]
theorem fset_ne {f : Str → Bool} {a n : Str} {b : Bool} (h : n ≠ a) : fset f a b n = f n := by
  unfold fset
  rw [if_neg h]
theorem bis_take {m : Int} {S : SetD} (ok : SetOk S) (pl : PlainS S) {s1 s2 : StD} (B : Bis m S s1 s2) {r : List LineD} (hr : ∀ l ∈ r, l ∈ S.ls) (hs : r.Pairwise fun a b => b.rank < a.rank) :
    Bis m S (takeP s1 r).1 (takeP s2 (r.filter (upL m))).1 ∧ (takeP s2 (r.filter (upL m))).2 = (takeP s1 r).2.filter (upE m) := by
  cases r with
  | nil => exact ⟨B, rfl⟩
  | cons l r =>
    have hl := hr l List.mem_cons_self
    have lok := ok.ok.ok l hl
    rw [take_one lok.s1]
    have rank1 : ∀ c ∈ s1.stack, 1 ≤ c.line.rank := fun c mc => (ok.ok.ok _ (B.g1.calls c mc).ln).r1
    have hstep : ∃ n, l.steps[0]? = some (.run n) ∧ (0 : Int) ≤ 0 ∧ (0 : Int) < n := by
      have h0 : l.steps[0]? = some (l.steps[0]'(by have := lok.s1; omega)) := List.getElem?_eq_getElem _
      obtain ⟨n, en, hn⟩ := pl l hl _ (List.mem_of_getElem? h0)
      exact ⟨n, by rw [h0, en], by omega, by omega⟩
    have fl1 : ∀ c ∈ s1.stack, floorP s1 < l.rank → c.line.rank < l.rank := by
      intro c mc hf
      rcases List.eq_nil_or_concat s1.stack with e | ⟨rest, d, e⟩
      · rw [e] at mc
        cases mc
      · rw [List.concat_eq_append] at e
        rw [floor_top e B.b1 (rank1 d (by rw [e]; simp))] at hf
        have asc := B.asc
        rw [e] at mc asc
        rcases List.mem_append.mp mc with mc | mc
        · have := (List.pairwise_append.mp asc).2.2 c mc d (by simp)
          omega
        · obtain rfl := List.mem_singleton.mp mc
          exact hf
    have asc1 : floorP s1 < l.rank → (s1.stack ++ [(⟨l, 0, 0, s1.bar⟩ : CallD)]).Pairwise (fun (a b : CallD) => a.line.rank < b.line.rank) := fun hf =>
      List.pairwise_append.mpr ⟨B.asc, by simp, fun a ha b hb => by
        obtain rfl := List.mem_singleton.mp hb
        exact fl1 a ha hf⟩
    have good1 : GoodP S (beginP s1 l) := ⟨fun c mc => by
      rcases List.mem_append.mp mc with mc | mc
      · exact B.g1.calls c mc
      · obtain rfl := List.mem_singleton.mp mc
        exact ⟨hl, hstep⟩, B.g1.rows⟩
    have kept1 : ∀ c ∈ (beginP s1 l).stack, c.kept = 0 := fun c mc => by
      rcases List.mem_append.mp mc with mc | mc
      · exact B.k1 c mc
      · obtain rfl := List.mem_singleton.mp mc
        exact B.b1
    cases hu : upL m l with
    | true =>
      rw [List.filter_cons_of_pos hu, take_one lok.s1]
      have hm : m ≤ l.rank := by simpa [upL] using hu
      have hf2 : (floorP s1 < l.rank) ↔ (floorP s2 < l.rank) := by
        rcases List.eq_nil_or_concat s1.stack with e | ⟨rest, d, e⟩
        · have e2 : s2.stack = [] := by rw [B.st, e]; rfl
          rw [floor_nil e B.b1, floor_nil e2 B.b2]
        · rw [List.concat_eq_append] at e
          have d1 := rank1 d (by rw [e]; simp)
          rw [floor_top e B.b1 d1]
          cases hd : upC m d with
          | true =>
            have e2 : s2.stack = rest.filter (upC m) ++ [d] := by rw [B.st, e, List.filter_append]; simp [hd]
            rw [floor_top e2 B.b2 d1]
          | false =>
            have asc := B.asc
            rw [e] at asc
            have e2 : s2.stack = [] := by rw [B.st, e]; exact low_all asc hd
            rw [floor_nil e2 B.b2]
            have : ¬ m ≤ d.line.rank := by simpa [upC, upL] using hd
            have := lok.r1
            constructor <;> intro _ <;> omega
      by_cases hf : floorP s1 < l.rank
      · rw [if_pos hf, if_pos (hf2.mp hf)]
        refine ⟨⟨B.b1, B.b2, kept1, ?_, asc1 hf, fun k hk hk2 => ?_, good1⟩, by simp [upE, hu]⟩
        · show s2.stack ++ [(⟨l, 0, 0, s2.bar⟩ : CallD)] = (s1.stack ++ [(⟨l, 0, 0, s1.bar⟩ : CallD)]).filter (upC m)
          rw [List.filter_append, ← B.st, B.b1, B.b2]
          simp [upC, hu]
        · show fset s1.rung l.name false k.name = fset s2.rung l.name false k.name ∧ fset s1.und l.name true k.name = fset s2.und l.name true k.name
          unfold fset
          by_cases en : k.name = l.name
          · simp [en]
          · simp [en]
            exact B.rg k hk hk2
      · rw [if_neg hf, if_neg fun z => hf (hf2.mpr z)]
        exact ⟨B, rfl⟩
    | false =>
      have hm : ¬ m ≤ l.rank := by simpa [upL] using hu
      have hnil : (l :: r).filter (upL m) = [] := by
        rw [List.filter_eq_nil_iff]
        intro k hk
        rcases List.mem_cons.mp hk with e | hk
        · subst e
          simp [hu]
        · have := (List.pairwise_cons.mp hs).1 k hk
          simp [upL]
          omega
      rw [hnil]
      show Bis m S _ s2 ∧ [] = _
      by_cases hf : floorP s1 < l.rank
      · rw [if_pos hf]
        refine ⟨⟨B.b1, B.b2, kept1, ?_, asc1 hf, fun k hk hk2 => ?_, good1⟩, by simp [upE, hu]⟩
        · show s2.stack = (s1.stack ++ [(⟨l, 0, 0, s1.bar⟩ : CallD)]).filter (upC m)
          rw [List.filter_append, ← B.st]
          simp [upC, hu]
        · have ne : k.name ≠ l.name := fun q => by
            have := name_inj ok hk hl q
            subst this
            rw [hu] at hk2
            cases hk2
          show fset s1.rung l.name false k.name = _ ∧ fset s1.und l.name true k.name = _
          rw [fset_ne ne, fset_ne ne]
          exact B.rg k hk hk2
      · rw [if_neg hf]
        exact ⟨B, rfl⟩
end Cb

namespace Cb
open PySem PySem.Spec PyProof.Rows L2
theorem spend_form {s : StD} {rest : List CallD} {c : CallD} {n : Int} (e : s.stack = rest ++ [c]) (hn : c.line.steps[c.step]? = some (.run n)) :
    spendP s = if c.ticks + 1 < n then ({ s with c0 := s.c0 + 1, stack := rest ++ [{ c with ticks := c.ticks + 1 }] }, [])
      else if c.step + 1 < c.line.steps.length then ({ s with c0 := s.c0 + 1, stack := rest ++ [{ c with step := c.step + 1, ticks := 0 }] }, [])
      else ({ s with c0 := s.c0 + 1, stack := rest, bar := c.kept, und := fset s.und c.line.name false }, [.fin c.line]) := by
  have hst : stepT c = n := by unfold stepT; rw [hn]
  unfold spendP
  rw [e]
  simp only [List.getLast?_concat, List.dropLast_concat, hst]
  by_cases h : c.ticks + 1 < n
  · rw [if_pos h, if_pos h]
  · rw [if_neg h, if_neg h]
    unfold goP
    simp only [List.getLast?_concat, List.dropLast_concat]
theorem spend_nil {s : StD} (e : s.stack = []) : spendP s = ({ s with c3 := s.c3 + 1 }, []) := by
  unfold spendP
  rw [e]
  rfl
theorem asc_set {rest : List CallD} {c d : CallD} (h : (rest ++ [c]).Pairwise fun a b => a.line.rank < b.line.rank) (e : d.line = c.line) : (rest ++ [d]).Pairwise fun a b => a.line.rank < b.line.rank := by
  have z := List.pairwise_append.mp h
  refine List.pairwise_append.mpr ⟨z.1, by simp, fun a ha b hb => ?_⟩
  obtain rfl := List.mem_singleton.mp hb
  rw [e]
  exact z.2.2 a ha c (by simp)
theorem filt_set {m : Int} {rest : List CallD} {c d : CallD} (e : d.line = c.line) (h : upC m c = true) : (rest ++ [d]).filter (upC m) = rest.filter (upC m) ++ [d] := by
  have hd : upC m d = true := by unfold upC at h ⊢; rw [e]; exact h
  rw [List.filter_append]
  simp [hd]
theorem bis_spend {m : Int} {S : SetD} (ok : SetOk S) (pl : PlainS S) {s1 s2 : StD} (B : Bis m S s1 s2) :
    Bis m S (spendP s1).1 (spendP s2).1 ∧ (spendP s2).2 = (spendP s1).2.filter (upE m) := by
  have good := (spendP_good pl B.g1).1
  rcases List.eq_nil_or_concat s1.stack with e | ⟨rest, c, e⟩
  · have e2 : s2.stack = [] := by rw [B.st, e]; rfl
    rw [spend_nil e] at good ⊢
    rw [spend_nil e2]
    exact ⟨⟨B.b1, B.b2, B.k1, B.st, B.asc, B.rg, good⟩, rfl⟩
  rw [List.concat_eq_append] at e
  have hc := B.g1.calls c (by rw [e]; simp)
  obtain ⟨n, hn, hn0, hn1⟩ := hc.st
  have asc := B.asc
  rw [e] at asc
  have hk : c.kept = 0 := B.k1 c (by rw [e]; simp)
  have hkr : ∀ d ∈ rest, d.kept = 0 := fun d hd => B.k1 d (by rw [e]; exact List.mem_append_left _ hd)
  have hks : ∀ d : CallD, d.kept = 0 → ∀ x ∈ rest ++ [d], x.kept = 0 := fun d hd x hx => by
    rcases List.mem_append.mp hx with hx | hx
    · exact hkr x hx
    · obtain rfl := List.mem_singleton.mp hx
      exact hd
  rw [spend_form e hn] at good ⊢
  cases hu : upC m c with
  | true =>
    have e2 : s2.stack = rest.filter (upC m) ++ [c] := by rw [B.st, e]; exact filt_set rfl hu
    rw [spend_form e2 hn]
    by_cases h1 : c.ticks + 1 < n
    · rw [if_pos h1] at good ⊢
      rw [if_pos h1]
      exact ⟨⟨B.b1, B.b2, hks _ hk, (filt_set (c := c) (d := { c with ticks := c.ticks + 1 }) rfl hu).symm, asc_set asc rfl, B.rg, good⟩, rfl⟩
    · rw [if_neg h1] at good ⊢
      rw [if_neg h1]
      by_cases h2 : c.step + 1 < c.line.steps.length
      · rw [if_pos h2] at good ⊢
        rw [if_pos h2]
        exact ⟨⟨B.b1, B.b2, hks _ hk, (filt_set (c := c) (d := { c with step := c.step + 1, ticks := 0 }) rfl hu).symm, asc_set asc rfl, B.rg, good⟩, rfl⟩
      · rw [if_neg h2] at good ⊢
        rw [if_neg h2]
        refine ⟨⟨hk, hk, hkr, rfl, (List.pairwise_append.mp asc).1, fun l hl hl2 => ?_, good⟩, ?_⟩
        · show _ ∧ fset s1.und c.line.name false l.name = fset s2.und c.line.name false l.name
          refine ⟨(B.rg l hl hl2).1, ?_⟩
          unfold fset
          split
          · rfl
          · exact (B.rg l hl hl2).2
        · show [Ev.fin c.line] = [Ev.fin c.line].filter (upE m)
          have : upE m (.fin c.line) = true := hu
          simp [this]
  | false =>
    have e2 : s2.stack = [] := by rw [B.st, e]; exact low_all asc hu
    rw [spend_nil e2]
    have hfr : rest.filter (upC m) = [] := by
      have z := low_all asc hu
      rw [List.filter_append] at z
      exact (List.append_eq_nil_iff.mp z).1
    have hfd : ∀ d : CallD, d.line = c.line → (rest ++ [d]).filter (upC m) = [] := fun d hd => by
      have : upC m d = false := by unfold upC at hu ⊢; rw [hd]; exact hu
      rw [List.filter_append, hfr]
      simp [this]
    by_cases h1 : c.ticks + 1 < n
    · rw [if_pos h1] at good ⊢
      exact ⟨⟨B.b1, B.b2, hks _ hk, e2.trans (hfd { c with ticks := c.ticks + 1 } rfl).symm, asc_set asc rfl, B.rg, good⟩, rfl⟩
    · rw [if_neg h1] at good ⊢
      by_cases h2 : c.step + 1 < c.line.steps.length
      · rw [if_pos h2] at good ⊢
        exact ⟨⟨B.b1, B.b2, hks _ hk, e2.trans (hfd { c with step := c.step + 1, ticks := 0 } rfl).symm, asc_set asc rfl, B.rg, good⟩, rfl⟩
      · rw [if_neg h2] at good ⊢
        refine ⟨⟨hk, B.b2, hkr, e2.trans hfr.symm, (List.pairwise_append.mp asc).1, fun l hl hl2 => ?_, good⟩, ?_⟩
        · have ne : l.name ≠ c.line.name := fun q => by
            have := name_inj ok hl hc.ln q
            subst this
            have z : upL m c.line = false := hu
            rw [z] at hl2
            cases hl2
          show _ ∧ fset s1.und c.line.name false l.name = _
          rw [fset_ne ne]
          exact B.rg l hl hl2
        · show [] = [Ev.fin c.line].filter (upE m)
          have : upE m (.fin c.line) = false := hu
          simp [this]
/-- a tick of both -/
theorem bis_tick {m : Int} {S1 S2 : SetD} (ok : SetOk S1) (pl : PlainS S1) {s1 s2 : StD} (B : Bis m S1 s1 s2) (h1 : ∀ l ∈ readyL S1 s1, l ∈ S1.ls) (hs : (readyL S1 s1).Pairwise fun a b => b.rank < a.rank) (h2 : readyL S2 s2 = (readyL S1 s1).filter (upL m)) :
    Bis m S1 (tickP S1 s1).1 (tickP S2 s2).1 ∧ (tickP S2 s2).2 = (tickP S1 s1).2.filter (upE m) := by
  have a := bis_take ok pl B h1 hs
  rw [← h2] at a
  have b := bis_spend ok pl a.1
  unfold tickP
  refine ⟨b.1, ?_⟩
  rw [List.filter_append, a.2, b.2]
end Cb

namespace Cb
open PySem PySem.Spec PyProof.Rows L2
theorem mem_lineOf {S : SetD} (h : SetOk S) {n : Str} {l : LineD} (hn : n ∈ S.order) : l ∈ lineOf S n ↔ l ∈ S.ls ∧ l.name = n := by
  obtain ⟨k, hk, rfl⟩ := h.line hn
  rw [lineOf_eq h hk]
  constructor
  · intro m
    obtain rfl := List.mem_singleton.mp m
    exact ⟨hk, rfl⟩
  · rintro ⟨hl, e⟩
    rw [name_inj h hl hk e]
    simp
theorem mem_readyL {S : SetD} (h : SetOk S) {s : StD} {l : LineD} : l ∈ readyL S s ↔ l ∈ S.ls ∧ s.rung l.name = true ∧ s.und l.name = false := by
  unfold readyL readyN
  rw [List.mem_flatMap]
  constructor
  · rintro ⟨n, hn, hl⟩
    have h1 := List.mem_filter.mp hn
    have h2 := List.mem_filter.mp h1.1
    obtain ⟨h3, e⟩ := (mem_lineOf h h2.1).mp hl
    subst e
    exact ⟨h3, h2.2, by simpa using h1.2⟩
  · rintro ⟨h1, h2, h3⟩
    refine ⟨l.name, List.mem_filter.mpr ⟨List.mem_filter.mpr ⟨h.mem h1, h2⟩, by simp [h3]⟩, (mem_lineOf h (h.mem h1)).mpr ⟨h1, rfl⟩⟩
def Ranks (S : SetD) : Prop := ∀ a ∈ S.ls, ∀ b ∈ S.ls, a.rank = b.rank → a = b
theorem flat_sorted {S : SetD} (h : SetOk S) (hr : Ranks S) : ∀ {ns : List Str}, (∀ n ∈ ns, n ∈ S.order) → ns.Nodup → (ns.Pairwise fun a b => ∀ la ∈ S.ls, ∀ lb ∈ S.ls, la.name = a → lb.name = b → lb.rank ≤ la.rank) → (ns.flatMap (lineOf S)).Pairwise fun a b => b.rank < a.rank
  | [], _, _, _ => .nil
  | n :: ns, hn, nd, hp => by
    obtain ⟨l, hl, rfl⟩ := h.line (hn n List.mem_cons_self)
    have nd2 := List.nodup_cons.mp nd
    have hp2 := List.pairwise_cons.mp hp
    rw [List.flatMap_cons, lineOf_eq h hl]
    refine List.pairwise_cons.mpr ⟨fun k hk => ?_, flat_sorted h hr (fun k m => hn k (List.mem_cons_of_mem _ m)) nd2.2 hp2.2⟩
    obtain ⟨q, hq, hkq⟩ := List.mem_flatMap.mp hk
    obtain ⟨hk1, rfl⟩ := (mem_lineOf h (hn q (List.mem_cons_of_mem _ hq))).mp hkq
    have le := hp2.1 k.name hq l hl k hk1 rfl rfl
    have ne : k.rank ≠ l.rank := fun e => by
      have := hr k hk1 l hl e
      subst this
      exact nd2.1 hq
    omega
theorem ready_sorted {S : SetD} (h : SetOk S) (hr : Ranks S) (s : StD) : (readyL S s).Pairwise fun a b => b.rank < a.rank := by
  have sub : (readyN S s).Sublist S.order := (List.filter_sublist).trans List.filter_sublist
  exact flat_sorted h hr (fun n m => sub.subset m) (h.nd.sublist sub) (h.srt.sublist sub)
theorem sorted_eq : ∀ {l1 l2 : List LineD}, (l1.Pairwise fun a b => b.rank < a.rank) → (l2.Pairwise fun a b => b.rank < a.rank) → (∀ x, x ∈ l1 ↔ x ∈ l2) → l1 = l2
  | [], [], _, _, _ => rfl
  | [], b :: l2, _, _, h => by
    have := (h b).mpr List.mem_cons_self
    cases this
  | a :: l1, [], _, _, h => by
    have := (h a).mp List.mem_cons_self
    cases this
  | a :: l1, b :: l2, p1, p2, h => by
    have q1 := List.pairwise_cons.mp p1
    have q2 := List.pairwise_cons.mp p2
    have e : a = b := by
      rcases List.mem_cons.mp ((h a).mp List.mem_cons_self) with e | m
      · exact e
      · rcases List.mem_cons.mp ((h b).mpr List.mem_cons_self) with e | m2
        · exact e.symm
        · have := q2.1 a m
          have := q1.1 b m2
          omega
    subst e
    rw [sorted_eq q1.2 q2.2 fun x => ⟨fun m => ?_, fun m => ?_⟩]
    · rcases List.mem_cons.mp ((h x).mp (List.mem_cons_of_mem _ m)) with e | z
      · subst e
        exact absurd (q1.1 x m) (by omega)
      · exact z
    · rcases List.mem_cons.mp ((h x).mpr (List.mem_cons_of_mem _ m)) with e | z
      · subst e
        exact absurd (q2.1 x m) (by omega)
      · exact z
/-- the ready lines of the upper part -/
theorem ready_up {m : Int} {S1 S2 : SetD} (h1 : SetOk S1) (h2 : SetOk S2) (hr : Ranks S1) (hu : ∀ l, l ∈ S2.ls ↔ l ∈ S1.ls ∧ upL m l = true) {s1 s2 : StD} (B : Bis m S1 s1 s2) : readyL S2 s2 = (readyL S1 s1).filter (upL m) := by
  have hr2 : Ranks S2 := fun a ha b hb e => hr a ((hu a).mp ha).1 b ((hu b).mp hb).1 e
  refine sorted_eq (ready_sorted h2 hr2 s2) ((ready_sorted h1 hr s1).sublist List.filter_sublist) fun x => ?_
  rw [List.mem_filter, mem_readyL h2, mem_readyL h1, hu]
  constructor
  · rintro ⟨⟨a, b⟩, c, d⟩
    have z := B.rg x a b
    exact ⟨⟨a, z.1.trans c, z.2.trans d⟩, b⟩
  · rintro ⟨⟨a, c, d⟩, b⟩
    have z := B.rg x a b
    exact ⟨⟨a, b⟩, z.1.symm.trans c, z.2.symm.trans d⟩
theorem bis_tick2 {m : Int} {S1 S2 : SetD} (h1 : SetOk S1) (h2 : SetOk S2) (hr : Ranks S1) (pl : PlainS S1) (hu : ∀ l, l ∈ S2.ls ↔ l ∈ S1.ls ∧ upL m l = true) {s1 s2 : StD} (B : Bis m S1 s1 s2) :
    Bis m S1 (tickP S1 s1).1 (tickP S2 s2).1 ∧ (tickP S2 s2).2 = (tickP S1 s1).2.filter (upE m) :=
  bis_tick h1 pl B (fun _ hl => ((mem_readyL h1).mp hl).1) (ready_sorted h1 hr s1) (ready_up h1 h2 hr hu B)
theorem bis_ring {m : Int} {S : SetD} (h : SetOk S) {s1 s2 : StD} (B : Bis m S s1 s2) {l : LineD} (hl : l ∈ S.ls) (hu : upL m l = true) : Bis m S { s1 with rung := fset s1.rung l.name true } { s2 with rung := fset s2.rung l.name true } := by
  refine ⟨B.b1, B.b2, B.k1, B.st, B.asc, fun k hk hk2 => ?_, ⟨B.g1.calls, B.g1.rows⟩⟩
  refine ⟨?_, (B.rg k hk hk2).2⟩
  show fset s1.rung l.name true k.name = fset s2.rung l.name true k.name
  unfold fset
  split
  · rfl
  · exact (B.rg k hk hk2).1
theorem bis_ring_low {m : Int} {S : SetD} (h : SetOk S) {s1 s2 : StD} (B : Bis m S s1 s2) {l : LineD} (hl : l ∈ S.ls) (hu : upL m l = false) : Bis m S { s1 with rung := fset s1.rung l.name true } s2 := by
  refine ⟨B.b1, B.b2, B.k1, B.st, B.asc, fun k hk hk2 => ?_, ⟨B.g1.calls, B.g1.rows⟩⟩
  have ne : k.name ≠ l.name := fun q => by
    have := name_inj h hk hl q
    subst this
    rw [hu] at hk2
    cases hk2
  show fset s1.rung l.name true k.name = _ ∧ _
  rw [fset_ne ne]
  exact B.rg k hk hk2
theorem bis_0 {m : Int} {S : SetD} : Bis m S st0 st0 := ⟨rfl, rfl, (fun _ q => by cases q), rfl, .nil, (fun _ _ _ => ⟨rfl, rfl⟩), ⟨(fun _ q => by cases q), rfl⟩⟩
end Cb

namespace Cb
open PySem PySem.Spec PyProof.Rows L2

def Dr (K' H : Hp) (row sc : Addr) (M : List (Addr × HO)) : Prop := ∃ i g x, 0 ≤ i ∧ (0 ≤ g ∧ g < 2147483647) ∧ Sep K' H ((row, rowO sc i g x) :: M)
def sp_law (K : PySem.W.Frag) : Sp := fun vs H Q _ => ∃ (a : Addr) (ns : List Int), vs = [.ref a] ∧ SqL K H a (ns.map V.int) ∧ ∀ H', Q (.bl true) H'
theorem taken {K : PySem.W.Frag} {row sc : Addr} {m : Int} {ns : List Int} {K0 H : Hp} {M : List (Addr × HO)} {Q : VK} {E : XK} (hm : 0 < m) (hm2 : m < 1000) (hsc : SqL K K0 sc (ns.map V.int)) (d : Dr K0 H row sc M) (q : ∀ H' r, 0 ≤ r → r < m → Dr K0 H' row sc M → Q (.int r) H') : sp_law_taken K [.ref row, .int m] H Q E := by
  obtain ⟨i, g, x, hi, hg, sp⟩ := d
  exact ⟨row, sc, m, ns, i, g, x, K0, M, rfl, hm, hm2, hi, hg, hsc, sp, fun H' i' g' x' r h1 h2 h3 h4 sp' => q H' r h3 h4 ⟨i', g', x', h1, h2, sp'⟩⟩
theorem takenT {K : PySem.W.Frag} {row sc : Addr} {m : Int} {ns : List Int} {K0 H : Hp} {M : List (Addr × HO)} {σ : L2.St} {Q : VK} {E : XK} (hσ : σ[1]? = some (some (V.ref row))) (hm : 0 < m) (hm2 : m < 1000) (hsc : SqL K K0 sc (ns.map V.int)) (d : Dr K0 H row sc M) (q : ∀ H' r, 0 ≤ r → r < m → Dr K0 H' row sc M → Q (.int r) H') : tCall (sp_law_taken K) [] E (tCons (tVar 1) (tCons (tC (.int m)) tNil)) σ H Q := ⟨_, hσ, taken (E := E) hm hm2 hsc d q⟩
theorem takenL {K : PySem.W.Frag} {row sc : Addr} {v : Nat} {p : Addr} {acc : List V} {ns : List Int} {K0 H : Hp} {M : List (Addr × HO)} {σ : L2.St} {Q : VK} {E : XK} (hσ : σ[1]? = some (some (V.ref row))) (hv : σ[v]? = some (some (V.ref p))) (hp : SqL K H p acc) (hm2 : acc.length < 900) (hsc : SqL K K0 sc (ns.map V.int)) (d : Dr K0 H row sc M) (q : ∀ H' r, 0 ≤ r → r < (acc.length : Int) + 1 → Dr K0 H' row sc M → Q (.int r) H') : tCall (sp_law_taken K) [] E (tCons (tVar 1) (tCons (tOp (rI0 fun i j => V.int (i + j)) (tCB (fun xs H Q => ∃ p ys, xs = [V.ref p] ∧ (SqL K H p ys ∨ SqT K H p ys) ∧ Q (V.int ys.length) H) (tCons (tVar v) tNil)) (tC (V.int 1))) tNil)) σ H Q := ⟨_, hσ, _, hv, p, acc, rfl, .inl hp, _, _, rfl, rfl, taken (E := E) (by omega) (by omega) hsc d q⟩
theorem takenL0 {K : PySem.W.Frag} {row sc : Addr} {v : Nat} {p : Addr} {acc : List V} {ns : List Int} {K0 H : Hp} {M : List (Addr × HO)} {σ : L2.St} {Q : VK} {E : XK} (hσ : σ[1]? = some (some (V.ref row))) (hv : σ[v]? = some (some (V.ref p))) (hp : SqL K H p acc) (h0 : 0 < acc.length) (hm2 : acc.length < 900) (hsc : SqL K K0 sc (ns.map V.int)) (q0 : (∀ H' r, 0 ≤ r → r < (acc.length : Int) → Q (.int r) H') → True) (q : sp_law_taken K [.ref row, .int acc.length] H Q E) : tCall (sp_law_taken K) [] E (tCons (tVar 1) (tCons (tCB (fun xs H Q => ∃ p ys, xs = [V.ref p] ∧ (SqL K H p ys ∨ SqT K H p ys) ∧ Q (V.int ys.length) H) (tCons (tVar v) tNil)) tNil)) σ H Q := ⟨_, hσ, _, hv, p, acc, rfl, .inl hp, q⟩
theorem hu64_of {k : Nat} {A : Around} (h : Room k A) : A.units + 64 < cLine := by
  have := h.un
  omega
section
variable {K' H : Hp} {row sc : Addr} {M : List (Addr × HO)}
theorem Dr.ext (d : Dr K' H row sc M) : Same K' H := d.elim fun _ h => h.elim fun _ h => h.elim fun _ h => h.2.2.ext
theorem Dr.own (d : Dr K' H row sc M) {p : Addr} {o : HO} (h : H p = none) : Dr K' (upd H p o) row sc ((p, o) :: M) := by
  obtain ⟨i, g, x, hi, hg, sp⟩ := d
  exact ⟨i, g, x, hi, hg, (sp.own h).swap⟩
theorem Dr.drop (d : Dr K' H row sc M) {p : Addr} {o : HO} (h : H p = none) : Dr K' (upd H p o) row sc M := by
  obtain ⟨i, g, x, hi, hg, sp⟩ := d
  exact ⟨i, g, x, hi, hg, sp.drop h⟩
theorem Dr.keep (d : Dr K' H row sc M) {p : Addr} {o : HO} (h : H p = none) : Dr (upd K' p o) (upd H p o) row sc M ∧ Same K' (upd K' p o) := by
  obtain ⟨i, g, x, hi, hg, sp⟩ := d
  exact ⟨⟨i, g, x, hi, hg, sp.keep h⟩, sp.newk h⟩
theorem Dr.at0 {p : Addr} {o : HO} (d : Dr K' H row sc ((p, o) :: M)) : H p = some o := by
  obtain ⟨i, g, x, hi, hg, sp⟩ := d
  exact sp.c1
theorem Dr.at1 {p : Addr} {o : HO} {e : Addr × HO} (d : Dr K' H row sc (e :: (p, o) :: M)) : H p = some o := by
  obtain ⟨i, g, x, hi, hg, sp⟩ := d
  exact sp.c2
theorem Dr.put {p : Addr} {o o' : HO} (d : Dr K' H row sc ((p, o) :: M)) : Dr K' (upd H p o') row sc ((p, o') :: M) := by
  obtain ⟨i, g, x, hi, hg, sp⟩ := d
  exact ⟨i, g, x, hi, hg, sp.put1⟩
theorem Dr.tail {e : Addr × HO} (d : Dr K' H row sc (e :: M)) : Dr K' H row sc M := by
  obtain ⟨i, g, x, hi, hg, sp⟩ := d
  exact ⟨i, g, x, hi, hg, sp.swap.tail⟩
theorem Dr.freeze {p : Addr} {o : HO} (d : Dr K' H row sc ((p, o) :: M)) : Dr (upd K' p o) H row sc M ∧ Same K' (upd K' p o) := by
  obtain ⟨i, g, x, hi, hg, sp⟩ := d
  exact ⟨⟨i, g, x, hi, hg, sp.swap.freeze⟩, sp.swap.new0⟩
end
theorem slA {K : PySem.W.Frag} {H : Hp} {a : Addr} {xs : List V} {k : Option Int} {Q : VK} (h : SqT K H a xs) (q : ∀ p H', ((p = a ∧ H' = H ∧ cutV xs none k = xs) ∨ (H p = none ∧ H' = upd H p (.tup (cutV xs none k)))) → Q (.ref p) H') : rSlA K (.ref a) none k H Q := by
  refine ⟨a, xs, rfl, h, fun e => q a H (.inl ⟨rfl, rfl, ?_⟩), fun _ p hp => q p _ (.inr ⟨hp, rfl⟩)⟩
  unfold cutV
  rw [e.1, e.2]
  simp

def FlatOk (x : V) : Prop := (∃ i, x = .int i) ∨ ∃ s, x = .str s ∧ nameOk s
def toD : V → PyData
  | .int i => .int i
  | .str s => .str s
  | _ => .none
theorem flat_dp {K : PySem.W.Frag} {H : Hp} : ∀ {l : List V}, (∀ x ∈ l, FlatOk x) → DpAll K H l (l.map toD)
  | [], _ => .nil
  | x :: l, h => by
    rcases h x List.mem_cons_self with ⟨i, rfl⟩ | ⟨s, rfl, _⟩
    · exact .cons (.int i) (flat_dp fun y m => h y (List.mem_cons_of_mem _ m))
    · exact .cons (.str s) (flat_dp fun y m => h y (List.mem_cons_of_mem _ m))
theorem flat_lay : ∀ {l : List V}, (∀ x ∈ l, FlatOk x) → PyData.canLayAll0 (l.map toD) = true ∧ PyData.depthAll (l.map toD) ≤ 1
  | [], _ => by simp [PyData.canLayAll0, PyData.depthAll]
  | x :: l, h => by
    have z := flat_lay (l := l) fun y m => h y (List.mem_cons_of_mem _ m)
    rcases h x List.mem_cons_self with ⟨i, rfl⟩ | ⟨s, rfl, hs⟩
    · simp [toD, PyData.canLayAll0, PyData.canLay0, PyData.depthAll, PyData.depth, z.1, z.2]
    · simp [toD, PyData.canLayAll0, PyData.canLay0, PyData.depthAll, PyData.depth, z.1, z.2, sok hs]
theorem flat_sh {l : List V} (h : ∀ x ∈ l, FlatOk x) : SeqAt.shaped (.list (l.map toD)) = true := by
  have z := flat_lay h
  unfold SeqAt.shaped
  simp [PyData.canLay0, z.1, PyData.depth]
  omega
theorem flat_nil (l : List V) : PyData.eqv (.list (l.map toD)) (.list []) = l.isEmpty := by
  cases l <;> simp [PyData.eqv, PyData.eqvAll]
theorem takenLv {K : PySem.W.Frag} {row sc : Addr} {rv v : Nat} {p : Addr} {acc : List V} {ns : List Int} {K0 H : Hp} {M : List (Addr × HO)} {σ : L2.St} {Q : VK} {E : XK} (hσ : σ[rv]? = some (some (V.ref row))) (hv : σ[v]? = some (some (V.ref p))) (hp : SqL K H p acc) (h0 : 0 < acc.length) (hm2 : acc.length < 900) (hsc : SqL K K0 sc (ns.map V.int)) (d : Dr K0 H row sc M) (q : ∀ H' r, 0 ≤ r → r < (acc.length : Int) → Dr K0 H' row sc M → Q (.int r) H') : tCall (sp_law_taken K) [] E (tCons (tVar rv) (tCons (tCB (fun xs H Q => ∃ p ys, xs = [V.ref p] ∧ (SqL K H p ys ∨ SqT K H p ys) ∧ Q (V.int ys.length) H) (tCons (tVar v) tNil)) tNil)) σ H Q :=
  ⟨_, hσ, _, hv, p, acc, rfl, .inl hp, taken (E := E) (by omega) (by omega) hsc d q⟩
theorem Dr.put1 {K' H : Hp} {row sc : Addr} {M : List (Addr × HO)} {e : Addr × HO} {p : Addr} {o o' : HO} (d : Dr K' H row sc (e :: (p, o) :: M)) : Dr K' (upd H p o') row sc (e :: (p, o') :: M) := by
  obtain ⟨i, g, x, hi, hg, sp⟩ := d
  exact ⟨i, g, x, hi, hg, sp.put2⟩
theorem erase_perm : ∀ {l : List V} {i : Nat} (h : i < l.length), (l[i] :: l.eraseIdx i).Perm l
  | a :: l, 0, _ => .refl _
  | a :: l, i + 1, h => (List.Perm.swap _ _ _).trans ((erase_perm (l := l) (i := i) (by simpa using h)).cons a)
def sp_law_mixed (K : PySem.W.Frag) : Sp := fun vs H Q _ => ∃ (row sc th : Addr) (ns : List Int) (xs : List V) (K0 : Hp) (M : List (Addr × HO)), vs = [.ref row, .ref th] ∧ SqL K K0 sc (ns.map V.int) ∧ SqL K K0 th xs ∧ xs.length ≤ 20 ∧ (∀ x ∈ xs, FlatOk x) ∧ Dr K0 H row sc M ∧
  ∀ K1 H' p ys, Same K0 K1 → Dr K1 H' row sc M → K1 p = some (.lst ys) → ys.Perm xs → Q (.ref p) H'

section
variable {P : Program} {w : World} {K : PySem.W.Frag} {mg : Str → Option Value} {base : Heap}

abbrev N_law_mixed : List Str := ["_law_row", "_law_things", "_law_left", "_law_found"]
theorem sc_law_mixed : FnScope N_law_mixed ["_law_row", "_law_things"] (C8.fnScope s_law_mixed) := C8.fnScope_by (by decide +kernel)
theorem ok_law_mixed {fd : FuncData} (T : Txt K mg) (F : FunD K "_law_mixed" "_law_mixed" (C8.fnArgs s_law_mixed) (C8.fnBody s_law_mixed) (C8.fnScope s_law_mixed) [] [] (He.ga K "_law_mixed") fd) (c__law_taken : C8.Cal P w K mg base 1 "_law_taken" (sp_law_taken K) []) :
    C8.Cal P w K mg base 2 "_law_mixed" (sp_law_mixed K) [] := by
  refine C8.cal0 (ds := []) ⟨fun_c8 F, T.f__law_mixed, F.kp⟩ (F.bindsN fun _ _ _ _ _ _ us hl => match us, hl with | [_, _], _ => rfl) .nil sc_law_mixed (fun vs H Q E h => ?_) (fun cdv A outer s H vs Q E hr h => ?_)
  · obtain ⟨_, _, _, _, _, _, _, rfl, _⟩ := h
    rfl
  · have nd := sc_law_mixed.nd
    have hu := hu_of hr
    obtain ⟨row, sc, th, ns, xs, K0, M, rfl, hsc, hth, hxl, hfl, d, q⟩ := h
    refine ⟨_, (pss_cons (ps_par (i := 2) (j := 3) rfl nd rfl rfl (by decide) rfl rfl (pa_cons (pe_callTy call_list_of (by rfl) T.n_list (by decide +kernel) (pa_cons (pv 1) pa_nil)) (pa_cons (pe_lst pa_nil) pa_nil)) rfl)
      (pss_cons (ps_while PassesOwn.never (pt_cmpR (op_neD (hu64_of hr)) (pv 2) (pe_lst pa_nil) (nomark _)) (pss_one (ps_expr (pe_bm PySem.F.plainAttrs_list PySem.F.slot_list_append PySem.F.type_list_append mt_append (pv 3) (pa_cons (pe_bm PySem.F.plainAttrs_list PySem.F.slot_list_pop PySem.F.type_list_pop mt_popAt (pv 2) (pa_cons (C8.pe_c c__law_taken hr (by decide) rfl (pa_cons (pv 0) (pa_cons (pe_callB call_len_seq (by rfl) T.n_len (by decide +kernel) (pa_cons (pv 2) pa_nil)) pa_nil))) pa_nil)) pa_nil)))))
      (pss_one (ps_ret (pv 3))))), ?_⟩
    refine ⟨_, rfl, _, _, rfl, .inl (Same.lst d.ext hth), fun lf hlf => ⟨Nat.zero_le _, fun fd2 hfd => ⟨_, _, rfl, ?_⟩⟩⟩
    have d1 := (d.own (o := .lst xs) hlf).own (o := .lst []) hfd
    refine ⟨fun m σ H' => ∃ l f, m = l.length ∧ σ = [some (.ref row), some (.ref th), some (.ref lf), some (.ref fd2)] ∧ (f ++ l).Perm xs ∧ Dr K0 H' row sc ((fd2, .lst f) :: (lf, .lst l) :: M), ⟨_, xs, [], rfl, rfl, by simp, d1⟩, ?_⟩
    rintro m σ H1 ⟨l, f, rfl, rfl, hp, d2⟩
    have hll : f.length + l.length ≤ 20 := by
      have := hp.length_eq
      simp at this
      omega
    have hfl2 : ∀ x ∈ l, FlatOk x := fun x m => hfl x (hp.mem_iff.mp (List.mem_append_right _ m))
    refine ⟨_, rfl, Nat.zero_le _, fun q2 hq2 => ?_⟩
    have d3 := d2.drop (o := .lst []) hq2
    refine ⟨.list (l.map toD), .list [], .lst (l_of d3.at1) (flat_dp hfl2), .lst (l_of upd_same) .nil, flat_sh hfl2, flat_sh (l := []) (fun _ m => by cases m), !l.isEmpty, by rw [flat_nil], ?_⟩
    cases hle : l with
    | nil =>
      subst hle
      refine iteF ?_
      have hfz := d3.freeze
      exact ⟨_, rfl, q _ _ fd2 f hfz.2 hfz.1.tail upd_same (by simpa using hp)⟩
    | cons y0 l0 =>
      rw [← hle]
      have hpos : 0 < l.length := by rw [hle]; simp
      have hie : (!l.isEmpty) = true := by rw [hle]; rfl
      rw [hie]
      refine iteT ⟨fun σ' H' => ∃ l' f', l'.length < l.length ∧ σ' = [some (.ref row), some (.ref th), some (.ref lf), some (.ref fd2)] ∧ (f' ++ l').Perm xs ∧ Dr K0 H' row sc ((fd2, .lst f') :: (lf, .lst l') :: M), ?_, ?_⟩
      · rintro σ' H' ⟨l', f', e1, e2, e3, e4⟩
        exact ⟨_, e1, l', f', rfl, e2, e3, e4⟩
      · refine ⟨_, rfl, .inl ⟨rfl, _, .inl (.inl d3.at0)⟩, _, rfl, .inl ⟨rfl, _, .inl (.inl d3.at1)⟩, takenLv rfl rfl (l_of d3.at1) hpos (by omega) hsc d3 fun H4 r a1 a2 d4 => ?_⟩
        have hr : r.toNat < l.length := by omega
        have hseq : seqIndex? r l.length = some r.toNat := by
          unfold seqIndex?
          have h1 : ¬ r < 0 := by omega
          simp [h1, a1, a2]
        refine ⟨_, _, _, r.toNat, _, rfl, rfl, d4.at1, by omega, by omega, hseq, List.getElem?_eq_getElem hr, ?_⟩
        have d5 := d4.put1 (o' := .lst (l.eraseIdx r.toNat))
        refine ⟨_, _, _, rfl, rfl, d5.at0, sm (m := 40) (by omega) (by decide), ?_⟩
        have d6 := d5.put (o' := .lst (f ++ [l[r.toNat]]))
        refine ⟨l.eraseIdx r.toNat, f ++ [l[r.toNat]], by rw [List.length_eraseIdx_of_lt hr]; omega, rfl, ?_, d6⟩
        refine List.Perm.trans ?_ hp
        rw [List.append_assoc]
        exact (erase_perm hr).append_left f
end
end Cb

namespace Cb
open PySem PySem.Spec PyProof.Rows L2

theorem takenG {K : PySem.W.Frag} {row sc : Addr} {rv v : Nat} {m : Int} {ns : List Int} {K0 H : Hp} {M : List (Addr × HO)} {σ : L2.St} {Q : VK} {E : XK} (hσ : σ[rv]? = some (some (V.ref row))) (hv : σ[v]? = some (some (V.int m))) (hm : 0 < m) (hm2 : m < 900) (hsc : SqL K K0 sc (ns.map V.int)) (d : Dr K0 H row sc M) (q : ∀ H' r, 0 ≤ r → r < m → Dr K0 H' row sc M → Q (.int r) H') : tCall (sp_law_taken K) [] E (tCons (tVar rv) (tCons (tVar v) tNil)) σ H Q := ⟨_, hσ, _, hv, taken (E := E) hm (by omega) hsc d q⟩
theorem takenC {K : PySem.W.Frag} {row sc : Addr} {rv : Nat} {m : Int} {ns : List Int} {K0 H : Hp} {M : List (Addr × HO)} {σ : L2.St} {Q : VK} {E : XK} (hσ : σ[rv]? = some (some (V.ref row))) (hm : 0 < m) (hm2 : m < 900) (hsc : SqL K K0 sc (ns.map V.int)) (d : Dr K0 H row sc M) (q : ∀ H' r, 0 ≤ r → r < m → Dr K0 H' row sc M → Q (.int r) H') : tCall (sp_law_taken K) [] E (tCons (tVar rv) (tCons (tC (.int m)) tNil)) σ H Q := ⟨_, hσ, taken (E := E) hm (by omega) hsc d q⟩
structure PlainDraw (lns : List LineD) (i : Nat) (nv rv : List V) : Prop where
  nm : names lns = nv.take i
  rk : lns.map (fun l => V.int l.rank) = rv.take i
  bd : ∀ l ∈ lns, 1 ≤ l.steps.length ∧ l.steps.length ≤ 2 ∧ l.lvl = false ∧ ∀ s ∈ l.steps, ∃ n, s = .run n ∧ 1 ≤ n ∧ n ≤ 99
def N6 : List V := [.str "net", .str "disk", .str "heat", .str "fan", .str "a", .str "ab"]
def R9 : List V := [.int 1, .int 2, .int 3, .int 4, .int 5, .int 6, .int 7, .int 8, .int 9]
def sp_law_plain (K : PySem.W.Frag) : Sp := fun vs H Q _ => ∃ (row sc : Addr) (most long : Int) (ns : List Int) (K0 : Hp) (M : List (Addr × HO)), vs = [.ref row, .int most, .int long] ∧ 1 ≤ most ∧ most ≤ 6 ∧ 1 ≤ long ∧ long ≤ 50 ∧ SqL K K0 sc (ns.map V.int) ∧ Dr K0 H row sc M ∧
  ∀ K1 H' p lns nv rv (k : Nat), Same K0 K1 → Dr K1 H' row sc M → LinesAt K K1 p lns → nv.Perm N6 → rv.Perm R9 → 1 ≤ k → k ≤ 6 → PlainDraw lns k nv rv → Q (.ref p) H'
theorem N6_flat : ∀ x ∈ N6, FlatOk x := by
  intro x m
  have h : ∀ s : Str, nameOk s → FlatOk (.str s) := fun s hs => .inr ⟨s, rfl, hs⟩
  simp only [N6, List.mem_cons, List.not_mem_nil, or_false] at m
  rcases m with rfl | rfl | rfl | rfl | rfl | rfl <;> exact h _ ⟨by decide, by decide +kernel⟩
theorem R9_flat : ∀ x ∈ R9, FlatOk x := by
  intro x m
  simp only [R9, List.mem_cons, List.not_mem_nil, or_false] at m
  rcases m with rfl | rfl | rfl | rfl | rfl | rfl | rfl | rfl | rfl <;> exact .inl ⟨_, rfl⟩
theorem cut_take {xs : List V} {r : Int} (h0 : 0 ≤ r) (h : r < xs.length) : cutV xs none (some (1 + r)) = xs.take (1 + r.toNat) := by
  have e : HT.sIx xs.length xs.length (some (1 + r)) = 1 + r.toNat := by
    unfold HT.sIx
    simp only
    rw [if_neg (by omega : ¬ ((1 + r : Int) < 0))]
    omega
  unfold cutV
  rw [e]
  simp [HT.sIx]

section
variable {P : Program} {w : World} {K : PySem.W.Frag} {mg : Str → Option Value} {base : Heap}

abbrev N_law_plain : List Str := ["_law_row", "_law_most", "_law_long", "_law_names", "_law_ranks", "_law_found", "_law_k", "_law_steps", "_law_turn"]
theorem sc_law_plain : FnScope N_law_plain ["_law_row", "_law_most", "_law_long"] (C8.fnScope s_law_plain) := C8.fnScope_by (by decide +kernel)
theorem ok_law_plain {fd : FuncData} (T : Txt K mg) (F : FunD K "_law_plain" "_law_plain" (C8.fnArgs s_law_plain) (C8.fnBody s_law_plain) (C8.fnScope s_law_plain) [] [] (He.ga K "_law_plain") fd) (c__law_taken : C8.Cal P w K mg base 1 "_law_taken" (sp_law_taken K) []) (c__law_mixed : C8.Cal P w K mg base 2 "_law_mixed" (sp_law_mixed K) []) :
    C8.Cal P w K mg base 3 "_law_plain" (sp_law_plain K) [] := by
  refine C8.cal0 (ds := []) ⟨fun_c8 F, T.f__law_plain, F.kp⟩ (F.bindsN fun _ _ _ _ _ _ us hl => match us, hl with | [_, _, _], _ => rfl) .nil sc_law_plain (fun vs H Q E h => ?_) (fun cdv A outer s H vs Q E hr h => ?_)
  · obtain ⟨_, _, _, _, _, _, _, rfl, _⟩ := h
    rfl
  · have nd := sc_law_plain.nd
    have hu := hu_of hr
    obtain ⟨row, sc, most, long, ns, K0, M, rfl, hm1, hm2, hl1, hl2, hsc, d, q⟩ := h
    refine ⟨_, (pss_cons (ps_set (i := 3) nd rfl (Or.inl rfl) (pe_slice sl_list (C8.pe_c c__law_mixed hr (by decide) rfl (pa_cons (pv 0) (pa_cons (pe_lst (pa_cons pe_str (pa_cons pe_str (pa_cons pe_str (pa_cons pe_str (pa_cons pe_str (pa_cons pe_str pa_nil))))))) pa_nil))) po_none (po_some (pe_op op_add pe_int (C8.pe_c c__law_taken hr (by decide) rfl (pa_cons (pv 0) (pa_cons (pv 1) pa_nil)))))))
      (pss_cons (ps_par (i := 4) (j := 5) rfl nd rfl rfl (by decide) rfl rfl (pa_cons (C8.pe_c c__law_mixed hr (by decide) rfl (pa_cons (pv 0) (pa_cons (pe_listRg rfl (by rfl) T.n_list (prg_2 (by rfl) T.n_range pe_int pe_int)) pa_nil))) (pa_cons (pe_lst pa_nil) pa_nil)) rfl)
      (pss_cons (ps_for PassesOwn.never rfl (pi_range1 (by rfl) T.n_range (pa_cons (pe_callB call_len_seq (by rfl) T.n_len (by decide +kernel) (pa_cons (pv 3) pa_nil)) pa_nil)) (pg_name (i := 6) nd rfl (Or.inl rfl)) (pss_cons (ps_setLc (i := 7) (own := [("_law_turn", 8)]) rfl nd rfl rfl (sw_true rfl rfl rfl (by decide +kernel)) (pi_range1 (by rfl) T.n_range (pa_cons (pe_op op_add pe_int (C8.pe_c c__law_taken hr (by decide) rfl (pa_cons (pv 0) (pa_cons pe_int pa_nil)))) pa_nil)) (blkOk_by (own := [("_law_turn", 8)]) (N := N_law_plain) (sc := (C8.fnScope s_law_plain)) (by decide +kernel)) (fun _ _ _ _ _ => (pg_name (i := 8) nd rfl (Or.inl rfl))) (fun _ _ _ _ _ => pts_nil) (fun _ _ _ _ _ => (pe_tup (pa_cons pe_str (pa_cons (pe_op op_add pe_int (C8.pe_c c__law_taken hr (by decide) rfl (pa_cons (pv 0) (pa_cons (pv 2) pa_nil)))) pa_nil)))))
      (pss_one (ps_expr (pe_bm PySem.F.plainAttrs_list PySem.F.slot_list_append PySem.F.type_list_append mt_append (pv 5) (pa_cons (pe_tup (pa_cons (pe_ix ix_list (pv 3) (pv 6) (fun _ _ => rfl)) (pa_cons pe_str (pa_cons (pe_ix ix_list (pv 4) (pv 6) (fun _ _ => rfl)) (pa_cons (pe_callTy call_tuple_of (by rfl) T.n_tuple (by decide +kernel) (pa_cons (pv 7) pa_nil)) pa_nil))))) pa_nil))))))
      (pss_one (ps_ret (pe_callTy call_tuple_of (by rfl) T.n_tuple (by decide +kernel) (pa_cons (pv 5) pa_nil))))))), ?_⟩
    refine ⟨_, rfl, small8 (by simp), fun ln hln => ?_⟩
    have k0 := d.keep (o := .lst N6) hln
    have hln1 : upd K0 ln (.lst N6) ln = some (.lst N6) := upd_same
    revert k0 hln1
    generalize upd K0 ln (.lst N6) = K1
    rintro ⟨d1, g1⟩ hln1
    have sc1 := Same.lst g1 hsc
    refine ⟨row, sc, ln, ns, N6, K1, M, rfl, sc1, l_of hln1, by decide, N6_flat, d1, fun K2 H2 np nv g2 d2 hnp hnv => ?_⟩
    have sc2 := Same.lst g2 sc1
    have hnl : nv.length = 6 := hnv.length_eq
    refine takenG rfl rfl (by omega) (by omega) sc2 d2 fun H3 r a1 a2 d3 => ?_
    refine ⟨_, _, rfl, rfl, _, rfl, np, nv, rfl, l_of (d3.ext _ _ hnp), fun np2 hnp2 => ?_⟩
    rw [cut_take a1 (by omega)]
    have k3 := d3.keep (o := .lst (nv.take (1 + r.toNat))) hnp2
    have hnp3 : upd K2 np2 (.lst (nv.take (1 + r.toNat))) np2 = some (.lst (nv.take (1 + r.toNat))) := upd_same
    revert k3 hnp3
    generalize upd K2 np2 (.lst (nv.take (1 + r.toNat))) = K3
    rintro ⟨d4, g3⟩ hnp3
    refine ⟨_, rfl, _, _, rfl, rfl, (by unfold RgOk; decide), fun rl hrl => ?_⟩
    have k4 := d4.keep (o := .lst R9) hrl
    have hrl1 : upd K3 rl (.lst R9) rl = some (.lst R9) := upd_same
    revert k4 hrl1
    generalize upd K3 rl (.lst R9) = K4
    rintro ⟨d5, g4⟩ hrl1
    have sc4 := Same.lst g4 (Same.lst g3 sc2)
    refine ⟨row, sc, rl, ns, R9, K4, M, rfl, sc4, l_of hrl1, by decide, R9_flat, d5, fun K5 H5 rp rv g5 d6 hrp hrv => ?_⟩
    have sc5 := Same.lst g5 sc4
    have hrlen : rv.length = 9 := hrv.length_eq
    refine ⟨Nat.zero_le _, fun fd2 hfd => ⟨_, _, rfl, ?_⟩⟩
    have d7 := d6.own (o := .lst []) hfd
    have hnp5 : K5 np2 = some (.lst (nv.take (1 + r.toNat))) := g5 _ _ (g4 _ _ hnp3)
    have hkl : (nv.take (1 + r.toNat)).length = 1 + r.toNat := by simp; omega
    have g05 : Same K0 K5 := Same.tr g1 (Same.tr g2 (Same.tr g3 (Same.tr g4 g5)))
    refine ⟨_, rfl, _, _, rfl, .inl (l_of (d7.ext _ _ hnp5)), _, rfl, by omega, by omega, ?_⟩
    refine for_it (walk_range (lo := 0) (n := (((nv.take (1 + r.toNat)).length : Int)).toNat)) (fun i σ H' => ∃ y6 y7 y8 K' facc lns, σ = [some (.ref row), some (.int most), some (.int long), some (.ref np2), some (.ref rp), some (.ref fd2), y6, y7, y8] ∧ Same K5 K' ∧ Dr K' H' row sc ((fd2, .lst facc) :: M) ∧ Paired (LineAt K K') facc lns ∧ PlainDraw lns i nv rv) ⟨_, _, _, K5, [], [], rfl, Same.refl _, d7, .nil, rfl, rfl, (fun _ q => by cases q)⟩ (fun _ _ _ _ _ => trivial) ?_ ?_
    · rintro i v σ H6 H7 hi ⟨y6, y7, y8, K', facc, lns, rfl, g, d8, pr, pd⟩ ⟨rfl, rfl⟩
      have hi6 : i < 1 + r.toNat := by rw [hkl] at hi; omega
      have sc6 := Same.lst g sc5
      have hfl : facc.length ≤ 6 := by
        have h1 := pr.length
        have h2 := congrArg List.length pd.nm
        simp [names] at h2
        omega
      refine takenC rfl (by decide) (by decide) sc6 d8 fun H8 r0 b1 b2 d9 => ?_
      refine ⟨_, _, rfl, rfl, _, rfl, by omega, by omega, fun D hD => ?_⟩
      refine lc_it (walk_range (lo := 0) (n := (1 + r0).toNat)) (fun j H' => ∃ K'' acc sts, Same K' K'' ∧ Dr K'' H' row sc ((D, .lst acc) :: (fd2, .lst facc) :: M) ∧ Paired (StepAt K K'') acc sts ∧ sts.length = j ∧ ∀ s ∈ sts, ∃ n, s = SD.run n ∧ 1 ≤ n ∧ n ≤ 99) ⟨K', [], [], Same.refl _, d9.own hD, .nil, rfl, (fun _ q => by cases q)⟩ (fun _ _ _ _ => trivial) ?_ ?_
      · rintro j v H9 H10 hj ⟨K'', acc, sts, g', d', pr', hl', ho'⟩ ⟨rfl, rfl⟩
        have := pr'.length
        refine ⟨rfl, takenG rfl rfl (by omega) (by omega) (Same.lst g' sc6) d' fun H11 q1 e1 e2 d10 => ?_⟩
        refine ⟨_, _, rfl, rfl, small8 (by simp), fun t ht => ?_⟩
        have kk := d10.keep (o := .tup [.str "run", .int (1 + q1)]) ht
        refine ⟨_, kk.1.at0, sm (m := 9) (by omega) (by decide), _, _, sts ++ [.run (1 + q1)], Same.tr g' kk.2, kk.1.put, Paired.snoc (pr'.mono fun _ _ z => StepAt.up kk.2 z) ⟨t, rfl, t_of upd_same⟩, by simp [hl'], fun s m => ?_⟩
        rcases List.mem_append.mp m with m | m
        · exact ho' s m
        · obtain rfl := List.mem_singleton.mp m
          exact ⟨_, rfl, by omega, by omega⟩
      rintro H9 ⟨K6, sacc, sts, g6, d10, prs, hls, hso⟩
      have hiv : i < nv.length := by omega
      have hir : i < rv.length := by omega
      obtain ⟨n, hn⟩ : ∃ n : Str, nv[i] = .str n := by
        have m := hnv.mem_iff.mp (List.getElem_mem hiv)
        simp only [N6, List.mem_cons, List.not_mem_nil, or_false] at m
        rcases m with e | e | e | e | e | e <;> exact ⟨_, e⟩
      obtain ⟨rk, hrk, hrk1, hrk9⟩ : ∃ rk : Int, rv[i] = .int rk ∧ 1 ≤ rk ∧ rk ≤ 9 := by
        have m := hrv.mem_iff.mp (List.getElem_mem hir)
        simp only [R9, List.mem_cons, List.not_mem_nil, or_false] at m
        rcases m with e | e | e | e | e | e | e | e | e <;> exact ⟨_, e, by decide, by decide⟩
      have hni : (nv.take (1 + r.toNat))[i]? = some (.str n) := by
        rw [List.getElem?_take, if_pos hi6, List.getElem?_eq_getElem hiv, hn]
      have hri : rv[i]? = some (.int rk) := by rw [List.getElem?_eq_getElem hir, hrk]
      have hz : ((0 : Int) + (i : Nat)) = (i : Nat) := by omega
      have hat1 : atI (nv.take (1 + r.toNat)) ((0 : Int) + (i : Nat)) = some (.str n) := by rw [hz]; exact atIn hni
      have hat2 : atI rv ((0 : Int) + (i : Nat)) = some (.int rk) := by rw [hz]; exact atIn hri
      have g56 := Same.tr g g6
      refine ⟨_, rfl, .inl ⟨rfl, _, .inl (.inl d10.at1)⟩, _, rfl, _, rfl, _, _, _, _, rfl, rfl, l_of (d10.ext _ _ (g56 _ _ hnp5)), hat1, _, rfl, _, rfl, _, _, _, _, rfl, rfl, l_of (d10.ext _ _ (g56 _ _ hrp)), hat2, _, rfl, _, _, rfl, .inl ⟨l_of d10.at0, fun h hh => ?_⟩⟩
      have kh := d10.tail.keep (o := .tup sacc) hh
      have hh3 : upd K6 h (.tup sacc) h = some (.tup sacc) := upd_same
      revert kh hh3
      generalize upd K6 h (.tup sacc) = K7
      rintro ⟨d11, g7⟩ hh3
      refine ⟨small8 (by simp), fun tl htl => ?_⟩
      have kl := d11.keep (o := .tup [.str n, .str "edge", .int rk, .ref h]) htl
      have hl3 : upd K7 tl (.tup [.str n, .str "edge", .int rk, .ref h]) tl = some (.tup [.str n, .str "edge", .int rk, .ref h]) := upd_same
      revert kl hl3
      generalize upd K7 tl (.tup [.str n, .str "edge", .int rk, .ref h]) = K8
      rintro ⟨d12, g8⟩ hl3
      have gl := Same.tr g6 (Same.tr g7 g8)
      refine ⟨_, _, _, rfl, rfl, d12.at0, sm (m := 9) (by omega) (by decide), ?_⟩
      refine ⟨_, _, _, K8, facc ++ [.ref tl], lns ++ [⟨n, false, rk, sts⟩], rfl, Same.tr g gl, d12.put, Paired.snoc (pr.mono fun _ _ z => LineAt.up gl z) ⟨tl, h, sacc, rfl, t_of hl3, t_of (g8 _ _ hh3), prs.mono fun _ _ z => StepAt.up (Same.tr g7 g8) z⟩, ?_, ?_, fun l m => ?_⟩
      · rw [take_snoc (by rw [List.getElem?_eq_getElem hiv, hn]), ← pd.nm]
        simp [names]
      · rw [take_snoc hri, ← pd.rk]
        simp
      · rcases List.mem_append.mp m with m | m
        · exact pd.bd l m
        · obtain rfl := List.mem_singleton.mp m
          exact ⟨by simp; omega, by simp; omega, rfl, hso⟩
    · rintro σ H6 ⟨y6, y7, y8, K', facc, lns, rfl, g, d8, pr, pd⟩
      refine ⟨_, rfl, _, _, rfl, .inl ⟨l_of d8.at0, fun p hp => ?_⟩⟩
      have kp := d8.tail.keep (o := .tup facc) hp
      refine q _ _ p lns nv rv (1 + r.toNat) (Same.tr g05 (Same.tr g kp.2)) kp.1 ⟨facc, t_of upd_same, pr.mono fun _ _ z => LineAt.up kp.2 z⟩ hnv hrv (by omega) (by omega) ?_
      have e : (((nv.take (1 + r.toNat)).length : Int)).toNat = 1 + r.toNat := by rw [hkl]; omega
      rw [e] at pd
      exact pd
end
end Cb

namespace Cb
open PySem PySem.Spec PyProof.Rows L2
theorem if_cut {D : Ends} {tb te : TS} {σ : L2.St} {H : Hp} {c : Bool} (W : L2.St → Hp → Prop) (ht : c = true → ∀ N : L2.St → Hp → Prop, (∀ σ' H', W σ' H' → N σ' H') → tb { D with nx := N } σ H)
    (he : c = false → ∀ N : L2.St → Hp → Prop, (∀ σ' H', W σ' H' → N σ' H') → te { D with nx := N } σ H) (hW : ∀ σ' H', W σ' H' → D.nx σ' H') : if c = true then tb D σ H else te D σ H := by
  cases c
  · exact iteF (he rfl D.nx hW)
  · exact iteT (ht rfl D.nx hW)
/-! lines and calls as data -/
def sdD : SD → PyData
  | .run n => .tuple [.str "run", .int n]
  | .later w => .tuple [.str "later", .str w]
def lnD (l : LineD) : PyData := .tuple [.str l.name, .str (kindS l.lvl), .int l.rank, .tuple (l.steps.map sdD)]
def cdD (c : CallD) : PyData := .tuple [.str c.line.name, .int (c.step : Nat), .int c.ticks]
def Runs (sts : List SD) : Prop := ∀ s ∈ sts, ∃ n, s = SD.run n
theorem sds_dp {K : PySem.W.Frag} {H : Hp} : ∀ {hs : List V} {sts : List SD}, Paired (StepAt K H) hs sts → DpAll K H hs (sts.map sdD)
  | _, _, .nil => .nil
  | _, st :: _, .cons ⟨t, e, h⟩ p => by
    subst e
    cases st with
    | run n => exact .cons (.tup h (.cons (.str _) (.cons (.int _) .nil))) (sds_dp p)
    | later w => exact .cons (.tup h (.cons (.str _) (.cons (.str _) .nil))) (sds_dp p)
theorem lns_dp {K : PySem.W.Frag} {H : Hp} : ∀ {xs : List V} {lns : List LineD}, Paired (LineAt K H) xs lns → DpAll K H xs (lns.map lnD)
  | _, _, .nil => .nil
  | _, _, .cons ⟨a, h, hs, e, ha, hh, hp⟩ p => by
    subst e
    exact .cons (.tup ha (.cons (.str _) (.cons (.str _) (.cons (.int _) (.cons (.tup hh (sds_dp hp)) .nil))))) (lns_dp p)
theorem cds_dp {K : PySem.W.Frag} {H : Hp} : ∀ {xs : List V} {cs : List CallD}, Paired (C3At K H) xs cs → DpAll K H xs (cs.map cdD)
  | _, _, .nil => .nil
  | _, _, .cons ⟨t, e, h⟩ p => by
    subst e
    exact .cons (.tup h (.cons (.str _) (.cons (.int _) (.cons (.int _) .nil)))) (cds_dp p)
theorem sok_run : PyData.strOk "run" = true := by decide +kernel
theorem sok_edge : PyData.strOk "edge" = true := by decide +kernel
theorem sds_lay : ∀ {sts : List SD}, Runs sts → PyData.canLayAll0 (sts.map sdD) = true ∧ PyData.depthAll (sts.map sdD) ≤ 2
  | [], _ => by simp [PyData.canLayAll0, PyData.depthAll]
  | s :: sts, h => by
    have z := sds_lay (sts := sts) fun x m => h x (List.mem_cons_of_mem _ m)
    obtain ⟨n, rfl⟩ := h s List.mem_cons_self
    refine ⟨?_, ?_⟩
    · simp [sdD, PyData.canLayAll0, PyData.canLay0, z.1, sok_run]
    · have := z.2
      simp [sdD, PyData.depthAll, PyData.depth]
      omega
theorem lns_lay : ∀ {lns : List LineD}, (∀ l ∈ lns, nameOk l.name ∧ l.lvl = false ∧ Runs l.steps) → PyData.canLayAll0 (lns.map lnD) = true ∧ PyData.depthAll (lns.map lnD) ≤ 4
  | [], _ => by simp [PyData.canLayAll0, PyData.depthAll]
  | l :: lns, h => by
    have z := lns_lay (lns := lns) fun x m => h x (List.mem_cons_of_mem _ m)
    obtain ⟨h1, h2, h3⟩ := h l List.mem_cons_self
    have y := sds_lay h3
    have k : PyData.strOk (kindS l.lvl) = true := by rw [h2]; exact sok_edge
    refine ⟨?_, ?_⟩
    · simp [lnD, PyData.canLayAll0, PyData.canLay0, z.1, y.1, k, sok h1]
    · have := z.2
      have := y.2
      simp [lnD, PyData.depthAll, PyData.depth]
      omega
theorem lns_sh {lns : List LineD} (h : ∀ l ∈ lns, nameOk l.name ∧ l.lvl = false ∧ Runs l.steps) : SeqAt.shaped (.tuple (lns.map lnD)) = true := by
  have z := lns_lay h
  unfold SeqAt.shaped
  simp [PyData.canLay0, z.1, PyData.depth]
  omega
theorem lns_nil (lns : List LineD) : PyData.eqv (.tuple (lns.map lnD)) (.tuple []) = lns.isEmpty := by
  cases lns <;> simp [PyData.eqv, PyData.eqvAll]
theorem cds_lay : ∀ {cs : List CallD}, (∀ c ∈ cs, nameOk c.line.name) → PyData.canLayAll0 (cs.map cdD) = true ∧ PyData.depthAll (cs.map cdD) ≤ 2
  | [], _ => by simp [PyData.canLayAll0, PyData.depthAll]
  | l :: lns, h => by
    have z := cds_lay (cs := lns) fun x m => h x (List.mem_cons_of_mem _ m)
    have h1 := h l List.mem_cons_self
    refine ⟨?_, ?_⟩
    · simp [cdD, PyData.canLayAll0, PyData.canLay0, z.1, sok h1]
    · have := z.2
      simp [cdD, PyData.depthAll, PyData.depth]
      omega
theorem cds_sh {cs : List CallD} (h : ∀ c ∈ cs, nameOk c.line.name) : SeqAt.shaped (.list (cs.map cdD)) = true := by
  have z := cds_lay h
  unfold SeqAt.shaped
  simp [PyData.canLay0, z.1, PyData.depth]
  omega
theorem cds_all : ∀ cs : List CallD, PyData.eqvAll (cs.map cdD) (cs.map cdD) = true
  | [] => by simp [PyData.eqvAll]
  | c :: cs => by
    have z := cds_all cs
    simp [PyData.eqvAll, cdD, PyData.eqv, z]
theorem cds_eq (cs : List CallD) : PyData.eqv (.list (cs.map cdD)) (.list (cs.map cdD)) = true := by
  unfold PyData.eqv
  exact cds_all cs
/-! what is drawn -/
theorem pw_inj {α : Type} {f : α → Int} : ∀ {l : List α}, (l.Pairwise fun a b => f a ≠ f b) → ∀ a ∈ l, ∀ b ∈ l, f a = f b → a = b
  | [], _, _, ha, _, _, _ => by cases ha
  | x :: l, h, a, ha, b, hb, e => by
    have h2 := List.pairwise_cons.mp h
    rcases List.mem_cons.mp ha with e1 | m1
    · rcases List.mem_cons.mp hb with e2 | m2
      · rw [e1, e2]
      · subst e1
        exact absurd e (h2.1 b m2)
    · rcases List.mem_cons.mp hb with e2 | m2
      · subst e2
        exact absurd e.symm (h2.1 a m1)
      · exact pw_inj h2.2 a m1 b m2 e
theorem N6_nd : N6.Nodup := by
  unfold N6
  simp
  decide +kernel
theorem R9_nd : R9.Nodup := by
  unfold R9
  simp
theorem PlainDraw.ok {lns : List LineD} {k : Nat} {nv rv : List V} (pd : PlainDraw lns k nv rv) (hnv : nv.Perm N6) (hrv : rv.Perm R9) (h1 : 1 ≤ k) (h6 : k ≤ 6) : LsOk lns ∧ (∀ a ∈ lns, ∀ b ∈ lns, a.rank = b.rank → a = b) := by
  have l6 := hnv.length_eq
  have l9 := hrv.length_eq
  have hlen : lns.length = k := by
    have z := congrArg List.length pd.nm
    simp [names, N6] at z l6
    omega
  have ndn : (names lns).Nodup := by
    rw [pd.nm]
    exact (hnv.nodup_iff.mpr N6_nd).sublist (List.take_sublist _ _)
  have ndr : (lns.map (fun l => V.int l.rank)).Nodup := by
    rw [pd.rk]
    exact (hrv.nodup_iff.mpr R9_nd).sublist (List.take_sublist _ _)
  refine ⟨⟨fun l m => ?_, ?_, ?_, by omega⟩, ?_⟩
  · have hn : V.str l.name ∈ names lns := List.mem_map_of_mem m
    rw [pd.nm] at hn
    have hn2 := N6_flat _ (hnv.mem_iff.mp (List.mem_of_mem_take hn))
    have hr : V.int l.rank ∈ lns.map (fun l => V.int l.rank) := List.mem_map_of_mem m
    rw [pd.rk] at hr
    have hr2 := hrv.mem_iff.mp (List.mem_of_mem_take hr)
    have b := pd.bd l m
    have hrk : 1 ≤ l.rank ∧ l.rank ≤ 9 := by
      simp only [R9, List.mem_cons, List.not_mem_nil, or_false, V.int.injEq] at hr2
      omega
    refine ⟨?_, hrk.1, hrk.2, b.1, by omega⟩
    rcases hn2 with ⟨i, e⟩ | ⟨s, e, h⟩
    · cases e
    · injection e with e
      exact e ▸ h
  · refine List.pairwise_map.mpr ((List.pairwise_map.mp ndn).imp fun h e => h ?_)
    exact congrArg V.str e
  · intro e
    rw [e] at hlen
    simp at hlen
    omega
  · exact pw_inj ((List.pairwise_map.mp ndr).imp fun h e => h (congrArg V.int e))
theorem LsOk.filt {ls : List LineD} (h : LsOk ls) (f : LineD → Bool) (ne : ls.filter f ≠ []) : LsOk (ls.filter f) :=
  ⟨fun l m => h.ok l (List.mem_filter.mp m).1, h.nd.sublist (List.filter_sublist.map _), ne, Nat.le_trans (List.length_filter_le _ _) h.le⟩
/-! two processors -/
structure Fr where
  si : Addr
  dx : Addr
  now : Int
  m : Addr
  c : Str → Int
def frL (K : PySem.W.Frag) (A : Ad) (S : SetD) (f : Fr) : List (Addr × HO) := [(f.si, siI K A f.dx f.now), (f.m, .dK (md S.order f.c))]
structure Duo (K : PySem.W.Frag) (A1 : Ad) (S1 : SetD) (A2 : Ad) (S2 : SetD) (K0 H : Hp) (s1 s2 : StD) (F1 F2 : Fr) (M : List (Addr × HO)) : Prop where
  fb1 : BoardAt K K0 A1.bo A1.su S1 A1.r A1.u
  fj1 : JobsAt K K0 A1.jo S1.ws A1.ro
  fm1 : MgAt K K0 A1.bo F1.m
  fb2 : BoardAt K K0 A2.bo A2.su S2 A2.r A2.u
  fj2 : JobsAt K K0 A2.jo S2.ws A2.ro
  fm2 : MgAt K K0 A2.bo F2.m
  ex : ∃ sv1 rv1 sv2 rv2, Paired (CallAt K K0) sv1 s1.stack ∧ Paired (RowAt K K0) rv1 s1.rows ∧ Paired (CallAt K K0) sv2 s2.stack ∧ Paired (RowAt K K0) rv2 s2.rows ∧
    Sep K0 H (lay K A1 S1 s1 sv1 rv1 (frL K A1 S1 F1 ++ lay K A2 S2 s2 sv2 rv2 (frL K A2 S2 F2 ++ M)))
section
variable {K : PySem.W.Frag} {A1 A2 : Ad} {S1 S2 : SetD} {K0 H : Hp} {s1 s2 : StD} {F1 F2 : Fr} {M : List (Addr × HO)}
theorem lay_app {A : Ad} {S : SetD} {s : StD} {sv rv : List V} : lay K A S s sv rv M = lay K A S s sv rv [] ++ M := rfl
theorem Duo.swap (d : Duo K A1 S1 A2 S2 K0 H s1 s2 F1 F2 M) : Duo K A2 S2 A1 S1 K0 H s2 s1 F2 F1 M := by
  obtain ⟨sv1, rv1, sv2, rv2, h1, h2, h3, h4, sp⟩ := d.ex
  refine ⟨d.fb2, d.fj2, d.fm2, d.fb1, d.fj1, d.fm1, sv2, rv2, sv1, rv1, h3, h4, h1, h2, sp.perm ?_⟩
  rw [lay_app (A := A2) (M := _ ++ lay _ _ _ _ _ _ _), lay_app (A := A1) (M := frL K A1 S1 F1 ++ M), lay_app (A := A1) (M := _ ++ lay _ _ _ _ _ _ _), lay_app (A := A2) (M := frL K A2 S2 F2 ++ M)]
  generalize lay K A1 S1 s1 sv1 rv1 [] = L1
  generalize lay K A2 S2 s2 sv2 rv2 [] = L2
  generalize frL K A1 S1 F1 = f1
  generalize frL K A2 S2 F2 = f2
  have z : ((L2 ++ f2) ++ (L1 ++ f1) ++ M).Perm ((L1 ++ f1) ++ (L2 ++ f2) ++ M) := List.perm_append_comm.append_right M
  simpa only [List.append_assoc] using z
theorem Duo.one (d : Duo K A1 S1 A2 S2 K0 H s1 s2 F1 F2 M) : ∃ N, Own K A1 S1 K0 H s1 (frL K A1 S1 F1 ++ N) ∧
    ∀ K1 H' s1' F1', F1'.m = F1.m → Same K0 K1 → Own K A1 S1 K1 H' s1' (frL K A1 S1 F1' ++ N) → Duo K A1 S1 A2 S2 K1 H' s1' s2 F1' F2 M := by
  obtain ⟨sv1, rv1, sv2, rv2, h1, h2, h3, h4, sp⟩ := d.ex
  refine ⟨_, ⟨d.fb1, d.fj1, sv1, rv1, h1, h2, sp⟩, fun K1 H' s1' F1' em g ow => ?_⟩
  obtain ⟨sv, rv, k1, k2, sp'⟩ := ow.ex
  exact ⟨ow.fb, ow.fj, em ▸ MgAt.up g d.fm1, BoardAt.up g d.fb2, JobsAt.up g d.fj2, MgAt.up g d.fm2, sv, rv, sv2, rv2, k1, k2, h3.mono fun _ _ z => CallAt.up g z, h4.mono fun _ _ z => RowAt.up g z, sp'⟩
theorem Duo.same (d : Duo K A1 S1 A2 S2 K0 H s1 s2 F1 F2 M) : Same K0 H := by
  obtain ⟨sv1, rv1, sv2, rv2, h1, h2, h3, h4, sp⟩ := d.ex
  exact sp.ext
theorem Duo.si1 (d : Duo K A1 S1 A2 S2 K0 H s1 s2 F1 F2 M) : H F1.si = some (siI K A1 F1.dx F1.now) := by
  obtain ⟨N, ow, _⟩ := d.one
  exact ow.fr
theorem Duo.si2 (d : Duo K A1 S1 A2 S2 K0 H s1 s2 F1 F2 M) : H F2.si = some (siI K A2 F2.dx F2.now) := d.swap.si1
theorem duoL {A1 A2 : Ad} {S1 S2 : SetD} {s1 s2 : StD} {sv1 rv1 sv2 rv2 : List V} {F1 F2 : Fr} {M : List (Addr × HO)} {e : Addr × HO} : (lay K A1 S1 s1 sv1 rv1 (frL K A1 S1 F1 ++ lay K A2 S2 s2 sv2 rv2 (frL K A2 S2 F2 ++ (e :: M)))).Perm (e :: lay K A1 S1 s1 sv1 rv1 (frL K A1 S1 F1 ++ lay K A2 S2 s2 sv2 rv2 (frL K A2 S2 F2 ++ M))) := by
  rw [lay_app (A := A1) (M := _ ++ lay _ _ _ _ _ _ (frL K A2 S2 F2 ++ (e :: M))), lay_app (A := A2) (M := frL K A2 S2 F2 ++ (e :: M)), lay_app (A := A1) (M := _ ++ lay _ _ _ _ _ _ (frL K A2 S2 F2 ++ M)), lay_app (A := A2) (M := frL K A2 S2 F2 ++ M)]
  generalize lay K A1 S1 s1 sv1 rv1 [] = L1
  generalize lay K A2 S2 s2 sv2 rv2 [] = L2
  generalize frL K A1 S1 F1 = f1
  generalize frL K A2 S2 F2 = f2
  have z : ((L1 ++ (f1 ++ (L2 ++ f2))) ++ e :: M).Perm (e :: ((L1 ++ (f1 ++ (L2 ++ f2))) ++ M)) := List.perm_middle
  simpa only [List.append_assoc] using z
/-- what is owned besides -/
theorem Duo.own (d : Duo K A1 S1 A2 S2 K0 H s1 s2 F1 F2 M) {p : Addr} {o : HO} (h : H p = none) : Duo K A1 S1 A2 S2 K0 (upd H p o) s1 s2 F1 F2 ((p, o) :: M) := by
  obtain ⟨sv1, rv1, sv2, rv2, h1, h2, h3, h4, sp⟩ := d.ex
  exact ⟨d.fb1, d.fj1, d.fm1, d.fb2, d.fj2, d.fm2, sv1, rv1, sv2, rv2, h1, h2, h3, h4, (sp.own h).perm duoL⟩
theorem Duo.grow {H' : Hp} (d : Duo K A1 S1 A2 S2 K0 H s1 s2 F1 F2 M) (g : Same H H') : Duo K A1 S1 A2 S2 K0 H' s1 s2 F1 F2 M := by
  obtain ⟨sv1, rv1, sv2, rv2, h1, h2, h3, h4, sp⟩ := d.ex
  exact ⟨d.fb1, d.fj1, d.fm1, d.fb2, d.fj2, d.fm2, sv1, rv1, sv2, rv2, h1, h2, h3, h4, sp.grow g⟩
theorem Duo.at0 {p : Addr} {o : HO} (d : Duo K A1 S1 A2 S2 K0 H s1 s2 F1 F2 ((p, o) :: M)) : H p = some o := by
  obtain ⟨sv1, rv1, sv2, rv2, h1, h2, h3, h4, sp⟩ := d.ex
  exact (sp.perm duoL.symm).c0
theorem Duo.put {p : Addr} {o o' : HO} (d : Duo K A1 S1 A2 S2 K0 H s1 s2 F1 F2 ((p, o) :: M)) : Duo K A1 S1 A2 S2 K0 (upd H p o') s1 s2 F1 F2 ((p, o') :: M) := by
  obtain ⟨sv1, rv1, sv2, rv2, h1, h2, h3, h4, sp⟩ := d.ex
  exact ⟨d.fb1, d.fj1, d.fm1, d.fb2, d.fj2, d.fm2, sv1, rv1, sv2, rv2, h1, h2, h3, h4, (sp.perm duoL.symm).put0.perm duoL⟩
theorem Duo.tail {e : Addr × HO} (d : Duo K A1 S1 A2 S2 K0 H s1 s2 F1 F2 (e :: M)) : Duo K A1 S1 A2 S2 K0 H s1 s2 F1 F2 M := by
  obtain ⟨sv1, rv1, sv2, rv2, h1, h2, h3, h4, sp⟩ := d.ex
  exact ⟨d.fb1, d.fj1, d.fm1, d.fb2, d.fj2, d.fm2, sv1, rv1, sv2, rv2, h1, h2, h3, h4, (sp.perm duoL.symm).tail⟩
theorem Duo.freeze {p : Addr} {o : HO} (d : Duo K A1 S1 A2 S2 K0 H s1 s2 F1 F2 ((p, o) :: M)) : Duo K A1 S1 A2 S2 (upd K0 p o) H s1 s2 F1 F2 M ∧ Same K0 (upd K0 p o) := by
  obtain ⟨sv1, rv1, sv2, rv2, h1, h2, h3, h4, sp⟩ := d.ex
  have g := (sp.perm duoL.symm).new0
  exact ⟨⟨BoardAt.up g d.fb1, JobsAt.up g d.fj1, MgAt.up g d.fm1, BoardAt.up g d.fb2, JobsAt.up g d.fj2, MgAt.up g d.fm2, sv1, rv1, sv2, rv2, h1.mono fun _ _ z => CallAt.up g z, h2.mono fun _ _ z => RowAt.up g z, h3.mono fun _ _ z => CallAt.up g z, h4.mono fun _ _ z => RowAt.up g z, (sp.perm duoL.symm).freeze⟩, g⟩
theorem Duo.dropN (d : Duo K A1 S1 A2 S2 K0 H s1 s2 F1 F2 M) {p : Addr} {o : HO} (h : H p = none) : Duo K A1 S1 A2 S2 K0 (upd H p o) s1 s2 F1 F2 M := d.grow (same_new (Same.refl H) h)
def DuD (K : PySem.W.Frag) (A1 : Ad) (S1 : SetD) (A2 : Ad) (S2 : SetD) (K0 H : Hp) (s1 s2 : StD) (F1 F2 : Fr) (row sc : Addr) (M : List (Addr × HO)) : Prop := ∃ i g x, 0 ≤ i ∧ (0 ≤ g ∧ g < 2147483647) ∧ Duo K A1 S1 A2 S2 K0 H s1 s2 F1 F2 ((row, rowO sc i g x) :: M)
theorem DuD.dr {row sc : Addr} (d : DuD K A1 S1 A2 S2 K0 H s1 s2 F1 F2 row sc M) : ∃ N, Dr K0 H row sc N ∧ ∀ H', Dr K0 H' row sc N → DuD K A1 S1 A2 S2 K0 H' s1 s2 F1 F2 row sc M := by
  obtain ⟨i, g, x, hi, hg, du⟩ := d
  obtain ⟨sv1, rv1, sv2, rv2, h1, h2, h3, h4, sp⟩ := du.ex
  exact ⟨_, ⟨i, g, x, hi, hg, sp.perm duoL.symm⟩, fun H' ⟨i', g', x', hi', hg', sp'⟩ => ⟨i', g', x', hi', hg', du.fb1, du.fj1, du.fm1, du.fb2, du.fj2, du.fm2, sv1, rv1, sv2, rv2, h1, h2, h3, h4, sp'.perm duoL⟩⟩
end
theorem take_ev {S : SetD} (ok : SetOk S) {s : StD} {r : List LineD} (hr : ∀ l ∈ r, l ∈ S.ls) : ∀ e ∈ (takeP s r).2, ∃ l ∈ S.ls, e = .bgn l ∨ e = .fin l := by
  cases r with
  | nil => intro e m; cases m
  | cons l r =>
    have hl := hr l List.mem_cons_self
    rw [take_one (ok.ok.ok l hl).s1]
    intro e m
    split at m
    · rcases List.mem_cons.mp m with rfl | m
      · exact ⟨l, hl, .inl rfl⟩
      · cases m
    · cases m
theorem spend_ev {S : SetD} {s : StD} (g : GoodP S s) : ∀ e ∈ (spendP s).2, ∃ l ∈ S.ls, e = .bgn l ∨ e = .fin l := by
  intro e m
  rcases List.eq_nil_or_concat s.stack with e1 | ⟨rest, c, e1⟩
  · rw [spend_nil e1] at m
    cases m
  rw [List.concat_eq_append] at e1
  have hc := g.calls c (by rw [e1]; simp)
  obtain ⟨n, hn, _⟩ := hc.st
  rw [spend_form e1 hn] at m
  split at m
  · cases m
  split at m
  · cases m
  rcases List.mem_cons.mp m with rfl | m
  · exact ⟨c.line, hc.ln, .inr rfl⟩
  · cases m
theorem tick_ev {S : SetD} (ok : SetOk S) (pl : PlainS S) {s : StD} (g : GoodP S s) : ∀ e ∈ (tickP S s).2, ∃ l ∈ S.ls, e = .bgn l ∨ e = .fin l := by
  have hr : ∀ l ∈ readyL S s, l ∈ S.ls := fun l m => ((mem_readyL ok).mp m).1
  intro e m
  unfold tickP at m
  rcases List.mem_append.mp m with m | m
  · exact take_ev ok hr e m
  · exact spend_ev (takeP_good pl g hr).1 e m
theorem tick_len {S : SetD} (ok : SetOk S) (pl : PlainS S) {s : StD} (g : GoodP S s) : (tickP S s).2.length ≤ 3 ∧ (tickP S s).1.stack.length ≤ s.stack.length + 1 := by
  have hr : ∀ l ∈ readyL S s, l ∈ S.ls := fun l m => ((mem_readyL ok).mp m).1
  have h1 := takeP_good pl g hr
  have h2 := spendP_len (takeP s (readyL S s)).1
  have h3 := (spendP_good pl h1.1)
  unfold tickP
  refine ⟨?_, ?_⟩
  · have := h1.2.2
    rw [List.length_append]
    omega
  · have := h3.2
    have := h1.2.1
    simp only
    omega
end Cb

namespace Cb
open PySem PySem.Spec PyProof.Rows L2
/-! the calls that a log tells, played -/
structure LP where
  now : Int
  least : Int
  stk : List (Int × Int)
  opn : Str → Int
def rkN (S : SetD) (n : Str) : Int := ((lineOf S n).map (·.rank)).headD 0
def csN (S : SetD) (n : Str) : Int := ((lineOf S n).map (·.ticks)).headD 0
theorem rkN_eq {S : SetD} (h : SetOk S) {l : LineD} (m : l ∈ S.ls) : rkN S l.name = l.rank := by
  unfold rkN
  rw [lineOf_eq h m]
  rfl
theorem csN_eq {S : SetD} (h : SetOk S) {l : LineD} (m : l ∈ S.ls) : csN S l.name = l.ticks := by
  unfold csN
  rw [lineOf_eq h m]
  rfl
section
variable (rk : Str → Int)
def byP (r k : Int) (p : LP) : LP := { p with now := p.now + k, opn := fun n => if r < rk n then p.now + k - 1 else p.opn n }
def adv1 (p : LP) : LP := match p.stk.getLast? with
  | none => byP rk 0 1 p
  | some e => byP rk e.1 1 { p with stk := if 1 < e.2 then p.stk.dropLast ++ [(e.1, e.2 - 1)] else p.stk.dropLast }
def adv : Nat → LP → LP
  | 0, p => p
  | n + 1, p => adv n (adv1 rk p)
theorem adv_add (m n : Nat) (p : LP) : adv rk (m + n) p = adv rk n (adv rk m p) := by
  induction m generalizing p with
  | zero => rw [Nat.zero_add]; rfl
  | succ m ih => rw [show m + 1 + n = (m + n) + 1 by omega]; exact ih _
theorem adv_succ (n : Nat) (p : LP) : adv rk (n + 1) p = adv1 rk (adv rk n p) := adv_add rk n 1 p
theorem adv1_now (p : LP) : (adv1 rk p).now = p.now + 1 := by
  unfold adv1
  split <;> rfl
theorem adv_now (n : Nat) (p : LP) : (adv rk n p).now = p.now + n := by
  induction n generalizing p with
  | zero => show p.now = p.now + ((0 : Nat) : Int); omega
  | succ n ih =>
    show (adv rk n (adv1 rk p)).now = _
    rw [ih, adv1_now]
    omega
theorem byP_byP (r k j : Int) (hj : 1 ≤ j) (p : LP) : byP rk r j (byP rk r k p) = byP rk r (k + j) p := by
  unfold byP
  simp only [LP.mk.injEq, true_and]
  refine ⟨by omega, funext fun n => ?_⟩
  split <;> omega
theorem adv_nil {p : LP} (h : p.stk = []) : ∀ n : Nat, adv rk (n + 1) p = byP rk 0 (n + 1 : Nat) p := by
  intro n
  induction n with
  | zero =>
    show adv1 rk p = _
    unfold adv1
    rw [h]
    rfl
  | succ n ih =>
    rw [adv_succ, ih]
    have e : (byP rk 0 ((n + 1 : Nat) : Int) p).stk = [] := h
    unfold adv1
    rw [e]
    show byP rk 0 1 (byP rk 0 _ p) = _
    rw [byP_byP rk 0 _ 1 (by decide)]
    rfl
theorem adv_top {p : LP} {rest : List (Int × Int)} {r l : Int} (h : p.stk = rest ++ [(r, l)]) : ∀ n : Nat, (n + 1 : Nat) ≤ l →
    adv rk (n + 1) p = byP rk r (n + 1 : Nat) { p with stk := if ((n + 1 : Nat) : Int) < l then rest ++ [(r, l - (n + 1 : Nat))] else rest } := by
  intro n hn
  induction n with
  | zero =>
    show adv1 rk p = _
    unfold adv1
    rw [h]
    simp
  | succ n ih =>
    have ih := ih (by omega)
    rw [if_pos (by omega)] at ih
    rw [adv_succ, ih]
    unfold adv1
    show (match (rest ++ [(r, l - ((n + 1 : Nat) : Int))]).getLast? with
      | none => _
      | some e => _) = _
    rw [List.getLast?_concat]
    have ed : (byP rk r ((n + 1 : Nat) : Int) { p with stk := rest ++ [(r, l - ((n + 1 : Nat) : Int))] }).stk.dropLast = rest := by
      show (rest ++ [_]).dropLast = rest
      simp
    simp only [ed]
    refine (byP_byP rk r ((n + 1 : Nat) : Int) 1 (by decide) { p with stk := if 1 < l - ((n + 1 : Nat) : Int) then rest ++ [(r, l - ((n + 1 : Nat) : Int) - 1)] else rest }).trans ?_
    have e1 : l - ((n + 1 : Nat) : Int) - 1 = l - ((n + 1 + 1 : Nat) : Int) := by omega
    rw [e1]
    by_cases hc : ((n + 1 + 1 : Nat) : Int) < l
    · rw [if_pos (by omega), if_pos hc]
      rfl
    · rw [if_neg (by omega), if_neg hc]
      rfl
def Pos1 (st : List (Int × Int)) : Prop := ∀ e ∈ st, 1 ≤ e.2
theorem adv1_pos {p : LP} (h : Pos1 p.stk) : Pos1 (adv1 rk p).stk ∧ (adv1 rk p).stk.length ≤ p.stk.length := by
  rcases List.eq_nil_or_concat p.stk with e | ⟨rest, x, e⟩
  · unfold adv1
    rw [e]
    show Pos1 p.stk ∧ p.stk.length ≤ _
    rw [e]
    exact ⟨(fun _ m => by cases m), Nat.le_refl _⟩
  · rw [List.concat_eq_append] at e
    unfold adv1
    rw [e, List.getLast?_concat]
    simp only [List.dropLast_concat]
    show Pos1 (if 1 < x.2 then rest ++ [(x.1, x.2 - 1)] else rest) ∧ (if 1 < x.2 then rest ++ [(x.1, x.2 - 1)] else rest).length ≤ _
    have hr : ∀ y ∈ rest, 1 ≤ y.2 := fun y m => h y (by rw [e]; exact List.mem_append_left _ m)
    split
    · refine ⟨fun y m => ?_, by simp⟩
      rcases List.mem_append.mp m with m | m
      · exact hr y m
      · obtain rfl := List.mem_singleton.mp m
        show 1 ≤ x.2 - 1
        omega
    · exact ⟨hr, by simp⟩
theorem adv_pos (n : Nat) {p : LP} (h : Pos1 p.stk) : Pos1 (adv rk n p).stk ∧ (adv rk n p).stk.length ≤ p.stk.length := by
  induction n generalizing p with
  | zero => exact ⟨h, Nat.le_refl _⟩
  | succ n ih =>
    have a := adv1_pos rk h
    have b := ih a.1
    exact ⟨b.1, Nat.le_trans b.2 a.2⟩
def lgo (p : LP) (t : Int) : LP := adv rk (t - p.now).toNat p
def lbeg (p : LP) (l : LineD) : LP := { p with stk := p.stk ++ [(l.rank, l.ticks)], opn := fun n => if n = l.name then p.now else p.opn n, least := p.now + 1 }
def lstep (p : LP) (x : Int × LineD) : LP := lbeg (lgo rk p x.1) x.2
def lend (p : LP) (xs : List (Int × LineD)) : LP := xs.foldl (lstep rk) p
def plays : LP → List (Int × LineD) → List (Int × Int)
  | _, [] => []
  | p, x :: r => ((lgo rk p x.1).opn x.2.name + 1, x.1) :: plays (lstep rk p x) r
def lets (p : LP) (l : LineD) : Bool := match p.stk.getLast? with
  | none => true
  | some e => decide (e.1 < l.rank)
structure ItemOk (S : SetD) (p : LP) (x : Int × LineD) : Prop where
  ln : x.2 ∈ S.ls
  lo : p.least ≤ x.1
  nw : p.now ≤ x.1
  hi : x.1 ≤ 1000000
  lt : lets (lgo rk p x.1) x.2 = true
def GL (S : SetD) : LP → List (Int × LineD) → Prop
  | _, [] => True
  | p, x :: r => ItemOk rk S p x ∧ GL S (lstep rk p x) r
theorem plays_app (a : List (Int × LineD)) (x : Int × LineD) : ∀ p, plays rk p (a ++ [x]) = plays rk p a ++ [((lgo rk (lend rk p a) x.1).opn x.2.name + 1, x.1)] := by
  induction a with
  | nil => intro p; rfl
  | cons y a ih =>
    intro p
    show _ :: plays rk (lstep rk p y) (a ++ [x]) = _ :: plays rk (lstep rk p y) a ++ _
    rw [ih]
    rfl
theorem plays_len (a : List (Int × LineD)) : ∀ p, (plays rk p a).length = a.length := by
  induction a with
  | nil => intro p; rfl
  | cons y a ih => intro p; show (plays rk _ a).length + 1 = _; rw [ih]; rfl
theorem plays_take (a : List (Int × LineD)) : ∀ p k, plays rk p (a.take k) = (plays rk p a).take k := by
  induction a with
  | nil => intro p k; simp [plays]
  | cons y a ih =>
    intro p k
    cases k with
    | zero => simp [plays]
    | succ k => simp [plays, ih]
theorem lend_app (a : List (Int × LineD)) (x : Int × LineD) (p : LP) : lend rk p (a ++ [x]) = lstep rk (lend rk p a) x := by
  unfold lend
  rw [List.foldl_append]
  rfl
theorem GL_app {S : SetD} (a : List (Int × LineD)) (x : Int × LineD) : ∀ p, GL rk S p a → ItemOk rk S (lend rk p a) x → GL rk S p (a ++ [x]) := by
  induction a with
  | nil => intro p _ h; exact ⟨h, trivial⟩
  | cons y a ih => intro p h g; exact ⟨h.1, ih _ h.2 g⟩
theorem GL_take {S : SetD} (a : List (Int × LineD)) : ∀ p k, GL rk S p a → GL rk S p (a.take k) := by
  induction a with
  | nil => intro p k _; simp [GL]
  | cons y a ih =>
    intro p k h
    cases k with
    | zero => simp [GL]
    | succ k => exact ⟨h.1, ih _ k h.2⟩
theorem GL_at {S : SetD} (a : List (Int × LineD)) : ∀ p k x, GL rk S p a → a[k]? = some x → ItemOk rk S (lend rk p (a.take k)) x := by
  induction a with
  | nil => intro p k x _ h; simp at h
  | cons y a ih =>
    intro p k x h e
    cases k with
    | zero =>
      simp at e
      subst e
      exact h.1
    | succ k => exact ih _ k x h.2 (by simpa using e)
theorem lend_now {S : SetD} {p : LP} {x : Int × LineD} (h : p.now ≤ x.1) : (lstep rk p x).now = x.1 := by
  show (lgo rk p x.1).now = x.1
  unfold lgo
  rw [adv_now]
  omega
end
def lp0 : LP := ⟨0, 0, [], fun _ => -1⟩
/-! .. against one processor -/
def rem (c : CallD) : Int := c.line.ticks - bef c
def proj (s : StD) : List (Int × Int) := s.stack.map fun c => (c.line.rank, rem c)
theorem befS_le {l : LineD} (h : ∀ st ∈ l.steps, ∃ n, st = SD.run n ∧ 1 ≤ n) : ∀ k j : Nat, j + k = l.steps.length → befS l j + k ≤ l.ticks := by
  intro k
  induction k with
  | zero =>
    intro j hj
    rw [befS_all (by omega)]
    omega
  | succ k ih =>
    intro j hj
    have hj2 : j < l.steps.length := by omega
    have e := List.getElem?_eq_getElem hj2
    obtain ⟨n, en, hn⟩ := h _ (List.getElem_mem hj2)
    rw [en] at e
    have z := ih (j + 1) (by omega)
    rw [befS_run e] at z
    omega
theorem rem_pos {S : SetD} (pl : PlainS S) {c : CallD} (h : CallOk S c) : 1 ≤ rem c := by
  obtain ⟨n, hn, h0, h1⟩ := h.st
  have hlt : c.step < c.line.steps.length := by
    rcases Nat.lt_or_ge c.step c.line.steps.length with z | z
    · exact z
    · rw [List.getElem?_eq_none z] at hn; cases hn
  have z := befS_le (pl c.line h.ln) (c.line.steps.length - (c.step + 1)) (c.step + 1) (by omega)
  rw [befS_run hn] at z
  unfold rem bef
  omega
def dec1 (st : List (Int × Int)) : List (Int × Int) := match st.getLast? with
  | none => st
  | some e => if 1 < e.2 then st.dropLast ++ [(e.1, e.2 - 1)] else st.dropLast
theorem adv1_stk (rk : Str → Int) (p : LP) : (adv1 rk p).stk = dec1 p.stk := by
  unfold adv1 dec1
  cases e : p.stk.getLast? with
  | none => rfl
  | some x => rfl
theorem proj_spend {S : SetD} (pl : PlainS S) {s : StD} (g : GoodP S s) : proj (spendP s).1 = dec1 (proj s) := by
  rcases List.eq_nil_or_concat s.stack with e | ⟨rest, c, e⟩
  · rw [spend_nil e]
    unfold proj dec1
    simp [e]
  rw [List.concat_eq_append] at e
  have hc := g.calls c (by rw [e]; simp)
  obtain ⟨n, hn, h0, h1⟩ := hc.st
  have good := (spendP_good pl g).1
  rw [spend_form e hn] at good ⊢
  have hp : proj s = rest.map (fun c => (c.line.rank, rem c)) ++ [(c.line.rank, rem c)] := by
    unfold proj
    rw [e]
    simp
  have hd : dec1 (proj s) = if 1 < rem c then rest.map (fun c => (c.line.rank, rem c)) ++ [(c.line.rank, rem c - 1)] else rest.map (fun c => (c.line.rank, rem c)) := by
    rw [hp]
    unfold dec1
    rw [List.getLast?_concat]
    simp only [List.dropLast_concat]
  rw [hd]
  by_cases h2 : c.ticks + 1 < n
  · rw [if_pos h2] at good ⊢
    have r2 := rem_pos pl (good.calls { c with ticks := c.ticks + 1 } (by simp))
    have er : rem { c with ticks := c.ticks + 1 } = rem c - 1 := by
      unfold rem bef
      simp only
      omega
    rw [er] at r2
    rw [if_pos (by omega)]
    unfold proj
    simp [er]
  · rw [if_neg h2] at good ⊢
    have hb := befS_run hn
    by_cases h3 : c.step + 1 < c.line.steps.length
    · rw [if_pos h3] at good ⊢
      have r2 := rem_pos pl (good.calls { c with step := c.step + 1, ticks := 0 } (by simp))
      have er : rem { c with step := c.step + 1, ticks := 0 } = rem c - 1 := by
        unfold rem bef
        simp only
        rw [hb]
        omega
      rw [er] at r2
      rw [if_pos (by omega)]
      unfold proj
      simp [er]
    · rw [if_neg h3]
      have hal := befS_all (l := c.line) (j := c.step + 1) (by omega)
      have er : rem c = 1 := by
        unfold rem bef
        rw [← hal, hb]
        omega
      rw [er, if_neg (by decide)]
      rfl
/-- the state between two ticks -/
structure IS (S : SetD) (s : StD) : Prop where
  bis : Bis 0 S s s
  un : ∀ l ∈ S.ls, s.und l.name = true → ∃ c ∈ s.stack, c.line = l
theorem up0 {S : SetD} (ok : SetOk S) {l : LineD} (h : l ∈ S.ls) : upL 0 l = true := by
  have := (ok.ok.ok l h).r1
  simp [upL]
  omega
def bgn? : Ev → Option LineD
  | .bgn l => some l
  | _ => none
/-- what one tick does -/
structure TickR (S : SetD) (s s' : StD) (evs : List Ev) (b : Option LineD) : Prop where
  ev : evs.filterMap bgn? = b.toList
  is : IS S s'
  mem : ∀ l, b = some l → l ∈ S.ls ∧ s.rung l.name = true ∧ (∀ e, (proj s).getLast? = some e → e.1 < l.rank)
  pr : proj s' = dec1 (proj s ++ b.toList.map fun l => (l.rank, l.ticks))
  rg1 : ∀ l, b = some l → s'.rung l.name = false
  rg2 : ∀ l ∈ S.ls, b ≠ some l → s'.rung l.name = s.rung l.name
  wt : ∀ l ∈ S.ls, s'.rung l.name = true → ∃ e, (proj s ++ b.toList.map fun l => (l.rank, l.ticks)).getLast? = some e ∧ l.rank ≤ e.1
  ln : s'.stack.length ≤ s.stack.length + 1
end Cb

namespace Cb
open PySem PySem.Spec PyProof.Rows L2
theorem spend_rung {S : SetD} {s : StD} (g : GoodP S s) : (spendP s).1.rung = s.rung ∧ (spendP s).2.filterMap bgn? = [] := by
  rcases List.eq_nil_or_concat s.stack with e | ⟨rest, c, e⟩
  · rw [spend_nil e]
    exact ⟨rfl, rfl⟩
  rw [List.concat_eq_append] at e
  obtain ⟨n, hn, _⟩ := (g.calls c (by rw [e]; simp)).st
  rw [spend_form e hn]
  split
  · exact ⟨rfl, rfl⟩
  · split <;> exact ⟨rfl, rfl⟩
def UnIn (S : SetD) (s : StD) : Prop := ∀ l ∈ S.ls, s.und l.name = true → ∃ c ∈ s.stack, c.line = l
theorem spend_un {S : SetD} {s : StD} (g : GoodP S s) (u : UnIn S s) : UnIn S (spendP s).1 := by
  rcases List.eq_nil_or_concat s.stack with e | ⟨rest, c, e⟩
  · rw [spend_nil e]
    exact u
  rw [List.concat_eq_append] at e
  obtain ⟨n, hn, _⟩ := (g.calls c (by rw [e]; simp)).st
  rw [spend_form e hn]
  have key : ∀ d : CallD, d.line = c.line → ∀ l ∈ S.ls, s.und l.name = true → ∃ c' ∈ rest ++ [d], c'.line = l := fun d hd l hl hu => by
    obtain ⟨c', hc', hl'⟩ := u l hl hu
    rw [e] at hc'
    rcases List.mem_append.mp hc' with m | m
    · exact ⟨c', List.mem_append_left _ m, hl'⟩
    · obtain rfl := List.mem_singleton.mp m
      exact ⟨d, by simp, hd.trans hl'⟩
  split
  · exact key { c with ticks := c.ticks + 1 } rfl
  · split
    · exact key { c with step := c.step + 1, ticks := 0 } rfl
    · intro l hl hu
      have hu : fset s.und c.line.name false l.name = true := hu
      have ne : l.name ≠ c.line.name := fun q => by
        unfold fset at hu
        rw [if_pos q] at hu
        cases hu
      rw [fset_ne ne] at hu
      obtain ⟨c', hc', hl'⟩ := u l hl hu
      rw [e] at hc'
      rcases List.mem_append.mp hc' with m | m
      · exact ⟨c', m, hl'⟩
      · obtain rfl := List.mem_singleton.mp m
        exact absurd (congrArg LineD.name hl').symm ne
theorem top_proj {s : StD} {rest : List CallD} {c : CallD} (e : s.stack = rest ++ [c]) : (proj s).getLast? = some (c.line.rank, rem c) := by
  unfold proj
  rw [e]
  simp
theorem tick_R {S : SetD} (ok : SetOk S) (pl : PlainS S) (hr : Ranks S) {s : StD} (I : IS S s) : ∃ b, TickR S s (tickP S s).1 (tickP S s).2 b := by
  have hb2 := (bis_tick2 (S2 := S) ok ok hr pl (fun l => ⟨fun h => ⟨h, up0 ok h⟩, fun h => h.1⟩) I.bis).1
  have g := I.bis.g1
  have hmem : ∀ l ∈ readyL S s, l ∈ S.ls := fun l m => ((mem_readyL ok).mp m).1
  have rank1 : ∀ c ∈ s.stack, 1 ≤ c.line.rank := fun c mc => (ok.ok.ok _ (g.calls c mc).ln).r1
  have stack_top : ∀ l ∈ S.ls, s.und l.name = true → ∃ e, (proj s).getLast? = some e ∧ l.rank ≤ e.1 := fun l hl hu => by
    obtain ⟨c, hc, rfl⟩ := I.un l hl hu
    rcases List.eq_nil_or_concat s.stack with e | ⟨rest, d, e⟩
    · rw [e] at hc
      cases hc
    rw [List.concat_eq_append] at e
    refine ⟨_, top_proj e, ?_⟩
    have asc := I.bis.asc
    rw [e] at asc hc
    rcases List.mem_append.mp hc with m | m
    · exact Int.le_of_lt ((List.pairwise_append.mp asc).2.2 c m d (by simp))
    · obtain rfl := List.mem_singleton.mp m
      exact Int.le_refl _
  have hlen := (tick_len ok pl g).2
  have sorted := ready_sorted ok hr s
  -- no begin
  have none_case : takeP s (readyL S s) = (s, []) → (∀ l ∈ readyL S s, ∃ e, (proj s).getLast? = some e ∧ l.rank ≤ e.1) → ∃ b, TickR S s (tickP S s).1 (tickP S s).2 b := fun ht hw => by
    refine ⟨none, ?_⟩
    have e1 : (tickP S s).1 = (spendP s).1 := by unfold tickP; rw [ht]
    have e2 : (tickP S s).2 = (spendP s).2 := by unfold tickP; rw [ht]; rfl
    rw [e1] at hb2 hlen ⊢
    rw [e2]
    have sr := spend_rung g
    have ep : proj s ++ ((none : Option LineD).toList.map fun l => (l.rank, l.ticks)) = proj s := by simp
    refine ⟨sr.2, ⟨hb2, spend_un g I.un⟩, (fun l h => by cases h), ?_, (fun l h => by cases h), fun l _ _ => by rw [sr.1], fun l hl hu => ?_, hlen⟩
    · rw [ep]
      exact proj_spend pl g
    · rw [ep]
      rw [sr.1] at hu
      cases hn : s.und l.name with
      | true => exact stack_top l hl hn
      | false => exact hw l ((mem_readyL ok).mpr ⟨hl, hu, hn⟩)
  cases hrd : readyL S s with
  | nil => exact none_case (by rw [hrd]; rfl) (by rw [hrd]; intro l m; cases m)
  | cons l0 r' =>
    have h0 : l0 ∈ S.ls := hmem l0 (by rw [hrd]; exact List.mem_cons_self)
    have lok := ok.ok.ok l0 h0
    rw [hrd] at sorted
    have ht := take_one (s := s) (l := l0) (r := r') lok.s1
    by_cases hf : floorP s < l0.rank
    · rw [if_pos hf] at ht
      refine ⟨some l0, ?_⟩
      have hg1 := takeP_good pl g hmem
      rw [hrd, ht] at hg1
      have e1 : (tickP S s).1 = (spendP (beginP s l0)).1 := by unfold tickP; rw [hrd, ht]
      have e2 : (tickP S s).2 = [.bgn l0] ++ (spendP (beginP s l0)).2 := by unfold tickP; rw [hrd, ht]
      rw [e1] at hb2 hlen ⊢
      rw [e2]
      have sr := spend_rung hg1.1
      have ub : UnIn S (beginP s l0) := fun l hl hu => by
        have hu : fset s.und l0.name true l.name = true := hu
        by_cases q : l.name = l0.name
        · have := name_inj ok hl h0 q
          subst this
          exact ⟨⟨l, 0, 0, s.bar⟩, by simp [beginP], rfl⟩
        · rw [fset_ne q] at hu
          obtain ⟨c, hc, hl'⟩ := I.un l hl hu
          exact ⟨c, by simp [beginP, hc], hl'⟩
      have ep : proj s ++ ((some l0 : Option LineD).toList.map fun l => (l.rank, l.ticks)) = proj (beginP s l0) := by
        unfold proj
        simp [beginP, rem, bef, befS]
      have topb : (proj (beginP s l0)).getLast? = some (l0.rank, l0.ticks) := by
        rw [← ep]
        simp
      have topf : ∀ e, (proj s).getLast? = some e → e.1 < l0.rank := fun e he => by
        rcases List.eq_nil_or_concat s.stack with q | ⟨rest, d, q⟩
        · unfold proj at he
          rw [q] at he
          cases he
        rw [List.concat_eq_append] at q
        rw [top_proj q] at he
        cases he
        rw [floor_top q I.bis.b1 (rank1 d (by rw [q]; simp))] at hf
        exact hf
      refine ⟨?_, ⟨hb2, spend_un hg1.1 ub⟩, fun l h => ?_, ?_, fun l h => ?_, fun l hl hne => ?_, fun l hl hu => ?_, hlen⟩
      · rw [List.filterMap_append]
        show [l0] ++ (spendP (beginP s l0)).2.filterMap bgn? = [l0]
        rw [sr.2]
        rfl
      · cases h
        exact ⟨h0, ((mem_readyL ok).mp (by rw [hrd]; exact List.mem_cons_self)).2.1, topf⟩
      · rw [ep]
        exact proj_spend pl hg1.1
      · cases h
        rw [sr.1]
        show fset s.rung l0.name false l0.name = false
        unfold fset
        rw [if_pos rfl]
      · rw [sr.1]
        show fset s.rung l0.name false l.name = s.rung l.name
        refine fset_ne fun q => hne ?_
        rw [name_inj ok hl h0 q]
      · rw [ep]
        refine ⟨_, topb, ?_⟩
        rw [sr.1] at hu
        have hu : fset s.rung l0.name false l.name = true := hu
        have ne : l.name ≠ l0.name := fun q => by
          unfold fset at hu
          rw [if_pos q] at hu
          cases hu
        rw [fset_ne ne] at hu
        cases hn : s.und l.name with
        | true =>
          obtain ⟨e, he, hle⟩ := stack_top l hl hn
          have := topf e he
          show l.rank ≤ l0.rank
          omega
        | false =>
          have m := (mem_readyL ok).mpr ⟨hl, hu, hn⟩
          rw [hrd] at m
          rcases List.mem_cons.mp m with q | m
          · exact absurd (congrArg LineD.name q) ne
          · exact Int.le_of_lt ((List.pairwise_cons.mp sorted).1 l m)
    · rw [if_neg hf] at ht
      refine none_case (by rw [hrd]; exact ht) fun l m => ?_
      have r0 := lok.r1
      rcases List.eq_nil_or_concat s.stack with q | ⟨rest, d, q⟩
      · rw [floor_nil q I.bis.b1] at hf
        omega
      rw [List.concat_eq_append] at q
      refine ⟨_, top_proj q, ?_⟩
      rw [floor_top q I.bis.b1 (rank1 d (by rw [q]; simp))] at hf
      rw [hrd] at m
      show l.rank ≤ d.line.rank
      rcases List.mem_cons.mp m with e | m
      · rw [e]
        omega
      · have := (List.pairwise_cons.mp sorted).1 l m
        omega
/-- rings between two ticks -/
theorem is_ring {S : SetD} (ok : SetOk S) {s : StD} (I : IS S s) {l : LineD} (hl : l ∈ S.ls) : IS S { s with rung := fset s.rung l.name true } :=
  ⟨bis_ring ok I.bis hl (up0 ok hl), I.un⟩
theorem is_0 {S : SetD} : IS S st0 := ⟨bis_0, fun _ _ h => by cases h⟩
end Cb

namespace Cb
open PySem PySem.Spec PyProof.Rows L2
def pset (f : Str → Option Int) (n : Str) (b : Option Int) : Str → Option Int := fun m => if m = n then b else f m
/-- rings, begins and the log of them: t ticks have gone by, some rings ahead of the next one -/
structure RI (S : SetD) (t : Nat) (s : StD) (log : List (Int × LineD)) (asg : List Int) (pend : Str → Option Int) : Prop where
  is : IS S s
  gl : GL (rkN S) S lp0 log
  pn : (lend (rkN S) lp0 log).now ≤ t
  ps : (lend (rkN S) lp0 log).least ≤ t
  stk : (lgo (rkN S) (lend (rkN S) lp0 log) t).stk = proj s
  op : ∀ l ∈ S.ls, -1 ≤ (lgo (rkN S) (lend (rkN S) lp0 log) t).opn l.name ∧ (lgo (rkN S) (lend (rkN S) lp0 log) t).opn l.name ≤ t - 1
  pd : ∀ l ∈ S.ls, s.rung l.name = (pend l.name).isSome
  pr : ∀ l ∈ S.ls, ∀ r, pend l.name = some r → (lgo (rkN S) (lend (rkN S) lp0 log) t).opn l.name < r ∧ r ≤ t
  al : asg.length = log.length
  ar : ∀ (k : Nat) (a : Int) (rg : Int × Int), asg[k]? = some a → (plays (rkN S) lp0 log)[k]? = some rg → rg.1 ≤ a ∧ a ≤ rg.2 ∧ 0 ≤ rg.1
  lg : log.length ≤ t
  ts : s.stack.length ≤ t
theorem lgo_succ (rk : Str → Int) {p : LP} {t : Nat} (h : p.now ≤ t) : lgo rk p ((t + 1 : Nat) : Int) = adv1 rk (lgo rk p t) := by
  unfold lgo
  rw [show (((t + 1 : Nat) : Int) - p.now).toNat = ((t : Int) - p.now).toNat + 1 by omega]
  exact adv_succ rk _ p
theorem lgo_now (rk : Str → Int) {p : LP} {t : Nat} (h : p.now ≤ t) : (lgo rk p t).now = t := by
  unfold lgo
  rw [adv_now]
  omega
theorem adv1_opn (rk : Str → Int) (p : LP) (n : Str) : (adv1 rk p).opn n = p.opn n ∨ (adv1 rk p).opn n = p.now := by
  unfold adv1
  cases e : p.stk.getLast? with
  | none =>
    show (if 0 < rk n then p.now + 1 - 1 else p.opn n) = _ ∨ _
    split
    · right
      show (if 0 < rk n then p.now + 1 - 1 else p.opn n) = _
      rw [if_pos (by assumption)]
      omega
    · exact .inl rfl
  | some x =>
    show (if x.1 < rk n then p.now + 1 - 1 else p.opn n) = _ ∨ _
    split
    · right
      show (if x.1 < rk n then p.now + 1 - 1 else p.opn n) = _
      rw [if_pos (by assumption)]
      omega
    · exact .inl rfl
theorem adv1_keep (rk : Str → Int) {p : LP} {n : Str} {x : Int × Int} (e : p.stk.getLast? = some x) (h : rk n ≤ x.1) : (adv1 rk p).opn n = p.opn n := by
  unfold adv1
  rw [e]
  show (if x.1 < rk n then p.now + 1 - 1 else p.opn n) = _
  rw [if_neg (by omega)]
theorem ri_0 {S : SetD} : RI S 0 st0 [] [] (fun _ => none) :=
  ⟨is_0, trivial, Int.le_refl _, Int.le_refl _, rfl, fun l _ => ⟨Int.le_refl _, by show (-1 : Int) ≤ ((0 : Nat) : Int) - 1; omega⟩, fun l _ => rfl, (fun l _ r h => by cases h), rfl, (fun k a rg h => by simp at h), Nat.le_refl _, Nat.le_refl _⟩
theorem ri_ring {S : SetD} (ok : SetOk S) {t : Nat} {s : StD} {log : List (Int × LineD)} {asg : List Int} {pend : Str → Option Int} (I : RI S t s log asg pend) {l : LineD} (hl : l ∈ S.ls) :
    RI S t { s with rung := fset s.rung l.name true } log asg (if s.rung l.name = true then pend else pset pend l.name (some t)) := by
  refine ⟨is_ring ok I.is hl, I.gl, I.pn, I.ps, I.stk, I.op, fun k hk => ?_, fun k hk r hr => ?_, I.al, I.ar, I.lg, I.ts⟩
  · show fset s.rung l.name true k.name = _
    by_cases e : k.name = l.name
    · unfold fset
      rw [if_pos e]
      split
      · rename_i h
        have z := I.pd l hl
        rw [h] at z
        rw [e]
        exact z
      · unfold pset
        rw [if_pos e]
        rfl
    · rw [fset_ne e]
      split
      · exact I.pd k hk
      · unfold pset
        rw [if_neg e]
        exact I.pd k hk
  · by_cases h : s.rung l.name = true
    · rw [if_pos h] at hr
      exact I.pr k hk r hr
    · rw [if_neg h] at hr
      unfold pset at hr
      split at hr
      · cases hr
        have := (I.op k hk).2
        exact ⟨by omega, Int.le_refl _⟩
      · exact I.pr k hk r hr
theorem ri_tick {S : SetD} (ok : SetOk S) (pl : PlainS S) (hr : Ranks S) {t : Nat} (ht : t < 1000) {s : StD} {log : List (Int × LineD)} {asg : List Int} {pend : Str → Option Int} (I : RI S t s log asg pend) :
    ∃ asg' pend', RI S (t + 1) (tickP S s).1 (log ++ ((tickP S s).2.filterMap bgn?).map fun l => ((t : Int), l)) asg' pend' ∧
      ((((tickP S s).2.filterMap bgn?) = [] ∧ asg' = asg ∧ pend' = pend) ∨ ∃ l r, (tickP S s).2.filterMap bgn? = [l] ∧ l ∈ S.ls ∧ pend l.name = some r ∧ asg' = asg ++ [r] ∧ pend' = pset pend l.name none) := by
  obtain ⟨b, R⟩ := tick_R ok pl hr I.is
  rw [R.ev]
  have hnow := lgo_now (rkN S) I.pn
  have hs := lgo_succ (rkN S) I.pn
  have hln := R.ln
  have its := I.ts
  have ilg := I.lg
  cases b with
  | none =>
    refine ⟨asg, pend, ?_, .inl ⟨rfl, rfl, rfl⟩⟩
    show RI S (t + 1) _ (log ++ []) asg pend
    rw [List.append_nil]
    have hp := R.pr
    simp only [Option.toList_none, List.map_nil, List.append_nil] at hp
    have hw := R.wt
    simp only [Option.toList_none, List.map_nil, List.append_nil] at hw
    refine ⟨R.is, I.gl, by have := I.pn; omega, by have := I.ps; omega, ?_, fun l hl => ?_, fun l hl => ?_, fun l hl r h => ?_, I.al, I.ar, by omega, by omega⟩
    · rw [hs, adv1_stk, I.stk]
      exact hp.symm
    · rw [hs]
      have z := I.op l hl
      rcases adv1_opn (rkN S) (lgo (rkN S) (lend (rkN S) lp0 log) t) l.name with q | q
      · rw [q]
        omega
      · rw [q, hnow]
        omega
    · rw [R.rg2 l hl (by simp)]
      exact I.pd l hl
    · have hu : (tickP S s).1.rung l.name = true := by
        rw [R.rg2 l hl (by simp), I.pd l hl, h]
        rfl
      obtain ⟨e, he, hle⟩ := hw l hl hu
      rw [← I.stk] at he
      rw [hs, adv1_keep (rkN S) he (by rw [rkN_eq ok hl]; exact hle)]
      have z := I.pr l hl r h
      exact ⟨z.1, by omega⟩
  | some l0 =>
    obtain ⟨h0, hu0, htop⟩ := R.mem l0 rfl
    have hp0 := I.pd l0 h0
    rw [hu0] at hp0
    obtain ⟨r0, hr0⟩ := Option.isSome_iff_exists.mp hp0.symm
    have pr0 := I.pr l0 h0 r0 hr0
    have op0 := I.op l0 h0
    refine ⟨asg ++ [r0], pset pend l0.name none, ?_, .inr ⟨l0, r0, rfl, h0, hr0, rfl, rfl⟩⟩
    show RI S (t + 1) _ (log ++ [((t : Int), l0)]) _ _
    have hw := R.wt
    have hp := R.pr
    simp only [Option.toList_some, List.map_cons, List.map_nil] at hw hp
    have item : ItemOk (rkN S) S (lend (rkN S) lp0 log) ((t : Int), l0) := by
      refine ⟨h0, I.ps, I.pn, ?_, ?_⟩
      · show (t : Int) ≤ 1000000
        omega
      · unfold lets
        show (match (lgo (rkN S) (lend (rkN S) lp0 log) t).stk.getLast? with
          | none => true
          | some e => decide (e.1 < l0.rank)) = true
        rw [I.stk]
        cases e : (proj s).getLast? with
        | none => rfl
        | some x => exact decide_eq_true (htop x e)
    have hend : lend (rkN S) lp0 (log ++ [((t : Int), l0)]) = lbeg (lgo (rkN S) (lend (rkN S) lp0 log) t) l0 := lend_app (rkN S) log _ lp0
    have hn2 : (lbeg (lgo (rkN S) (lend (rkN S) lp0 log) t) l0).now = t := hnow
    have hs2 : lgo (rkN S) (lbeg (lgo (rkN S) (lend (rkN S) lp0 log) t) l0) ((t + 1 : Nat) : Int) = adv1 (rkN S) (lbeg (lgo (rkN S) (lend (rkN S) lp0 log) t) l0) := by
      unfold lgo
      rw [show (((t + 1 : Nat) : Int) - (lbeg (adv (rkN S) ((t : Int) - (lend (rkN S) lp0 log).now).toNat (lend (rkN S) lp0 log)) l0).now).toNat = 1 by
        have : (lbeg (adv (rkN S) ((t : Int) - (lend (rkN S) lp0 log).now).toNat (lend (rkN S) lp0 log)) l0).now = t := hnow
        rw [this]
        omega]
      rfl
    have htop2 : (lbeg (lgo (rkN S) (lend (rkN S) lp0 log) t) l0).stk = proj s ++ [(l0.rank, l0.ticks)] := by
      show (lgo (rkN S) (lend (rkN S) lp0 log) t).stk ++ _ = _
      rw [I.stk]
    refine ⟨R.is, GL_app (rkN S) log _ lp0 I.gl item, ?_, ?_, ?_, fun l hl => ?_, fun l hl => ?_, fun l hl r h => ?_, by simp [I.al], fun k a rg ha hrg => ?_, by simp; omega, by omega⟩
    · rw [hend, hn2]
      omega
    · rw [hend]
      show (lgo (rkN S) (lend (rkN S) lp0 log) t).now + 1 ≤ _
      rw [hnow]
      omega
    · rw [hend, hs2, adv1_stk, htop2]
      exact hp.symm
    · rw [hend, hs2]
      have z := I.op l hl
      rcases adv1_opn (rkN S) (lbeg (lgo (rkN S) (lend (rkN S) lp0 log) t) l0) l.name with q | q
      · rw [q]
        show -1 ≤ (if l.name = l0.name then (lgo (rkN S) (lend (rkN S) lp0 log) t).now else (lgo (rkN S) (lend (rkN S) lp0 log) t).opn l.name) ∧ (if l.name = l0.name then (lgo (rkN S) (lend (rkN S) lp0 log) t).now else (lgo (rkN S) (lend (rkN S) lp0 log) t).opn l.name) ≤ _
        split
        · rw [hnow]
          omega
        · omega
      · rw [q, hn2]
        omega
    · unfold pset
      by_cases e : l.name = l0.name
      · rw [if_pos e]
        have := R.rg1 l0 rfl
        rw [e]
        exact this
      · rw [if_neg e, R.rg2 l hl (fun q => e (by cases q; rfl))]
        exact I.pd l hl
    · unfold pset at h
      by_cases e : l.name = l0.name
      · rw [if_pos e] at h
        cases h
      rw [if_neg e] at h
      have hu : (tickP S s).1.rung l.name = true := by
        rw [R.rg2 l hl (fun q => e (by cases q; rfl)), I.pd l hl, h]
        rfl
      obtain ⟨x, hx, hle⟩ := hw l hl hu
      rw [← htop2] at hx
      rw [hend, hs2, adv1_keep (rkN S) hx (by rw [rkN_eq ok hl]; exact hle)]
      have z := I.pr l hl r h
      show (if l.name = l0.name then _ else (lgo (rkN S) (lend (rkN S) lp0 log) t).opn l.name) < r ∧ _
      rw [if_neg e]
      exact ⟨z.1, by omega⟩
    · rw [plays_app] at hrg
      have hpl := plays_len (rkN S) log lp0
      have hal := I.al
      rcases Nat.lt_or_ge k asg.length with hk | hk
      · rw [List.getElem?_append_left hk] at ha
        rw [List.getElem?_append_left (by omega)] at hrg
        exact I.ar k a rg ha hrg
      · rw [List.getElem?_append_right hk] at ha
        rw [List.getElem?_append_right (by omega)] at hrg
        have hk0 : k - asg.length = 0 := by
          rcases Nat.eq_zero_or_pos (k - asg.length) with q | q
          · exact q
          · rw [List.getElem?_eq_none (by simp; omega)] at ha
            cases ha
        rw [hk0] at ha
        rw [show k - (plays (rkN S) lp0 log).length = 0 by omega] at hrg
        simp at ha hrg
        subst ha hrg
        refine ⟨?_, pr0.2, ?_⟩
        · show (lgo (rkN S) (lend (rkN S) lp0 log) t).opn l0.name + 1 ≤ _
          omega
        · show 0 ≤ (lgo (rkN S) (lend (rkN S) lp0 log) t).opn l0.name + 1
          omega
theorem plays_snd (rk : Str → Int) (a : List (Int × LineD)) : ∀ p, (plays rk p a).map (·.2) = a.map (·.1) := by
  induction a with
  | nil => intro p; rfl
  | cons y a ih => intro p; show _ :: (plays rk _ a).map _ = _ :: _; rw [ih]
end Cb

namespace Cb
open PySem PySem.Spec PyProof.Rows L2

theorem gen_it {J : It} {n : Nat} {G : Hp → Prop} {Y : Nat → Hp → V → Hp → Prop} (w : Walk J n G Y) {body : V → Hp → (Hp → Prop) → Prop} {Qd : Hp → Prop} {H0 : Hp} (Pv : Nat → Hp → Prop) (h0 : Pv 0 H0) (hG : ∀ i H, i ≤ n → Pv i H → G H)
    (hs : ∀ i x H H', i < n → Pv i H → Y i H x H' → body x H' (Pv (i + 1))) (hd : ∀ H, Pv n H → Qd H) :
    ∃ W : Nat → Nat → Hp → Prop, (∃ m, W 0 m H0) ∧ ∀ i m H, W i m H → (J.stop i H ∧ Qd H) ∨ (J.go i H ∧ ∃ Nx : Hp → Prop, (∀ H', Nx H' → ∃ m', m' < m ∧ W (i + 1) m' H') ∧ ∀ x H', J.yld i H x H' → body x H' Nx) := by
  refine ⟨fun i m H => m = n - i ∧ i ≤ n ∧ Pv i H, ⟨n, by simp, Nat.zero_le _, h0⟩, ?_⟩
  rintro i m H ⟨rfl, hi, p⟩
  have q := hG i H hi p
  rcases Nat.lt_or_ge i n with hlt | hge
  · exact .inr ⟨w.goes i H hlt q, Pv (i + 1), fun H' p' => ⟨n - (i + 1), by omega, rfl, hlt, p'⟩, fun x H' y => hs i x H H' hlt p (w.yields i H x H' hlt q y)⟩
  · obtain rfl : i = n := by omega
    exact .inl ⟨w.stops H q, hd H p⟩
def sp_Setup_lines (K : PySem.W.Frag) : Sp := fun vs H Q _ => ∃ (su : Addr) (S : SetD) (K0 : Hp), vs = [.ref su] ∧ SetupAt K K0 su S ∧ Same K0 H ∧ ∀ la, LinesAt K K0 la S.ls → Q (.ref la) H
structure Plain2 (S : SetD) : Prop where
  ed : ∀ l ∈ S.ls, l.lvl = false ∧ Runs l.steps
  rk : (S.ls.map (·.rank)).Nodup
def sp_Setup_is_plain (K : PySem.W.Frag) : Sp := fun vs H Q _ => ∃ (su : Addr) (S : SetD), vs = [.ref su] ∧ SetupAt K H su S ∧ SetOk S ∧ Plain2 S ∧ ∀ H', Same H H' → Q (.bl true) H'
def sp_check_plain (K : PySem.W.Frag) : Sp := fun vs H Q _ => ∃ (su : Addr) (S : SetD), vs = [.ref su] ∧ SetupAt K H su S ∧ SetOk S ∧ Plain2 S ∧ ∀ H', Same H H' → Q .non H'
def sp_Single_waiting (K : PySem.W.Frag) : Sp := fun vs H Q _ => ∃ (A : Ad) (S : SetD) (K0 : Hp) (s : StD) (si dx : Addr) (now : Int) (M : List (Addr × HO)), vs = [.ref si] ∧ Own K A S K0 H s ((si, siI K A dx now) :: M) ∧
  ∀ p H', Same H H' → H p = none → H' p = some (.lst ((S.order.filter s.rung).map V.str)) → Q (.ref p) H'
theorem all_rep (k : Nat) : (List.replicate k (V.bl true)).all (fun v => match v with | .bl b => b | _ => false) = true := by
  induction k with
  | zero => rfl
  | succ k ih => simp [List.replicate_succ, ih]

section
variable {P : Program} {w : World} {K : PySem.W.Frag} {mg : Str → Option Value} {base : Heap}

abbrev N_Setup_lines : List Str := ["self"]
theorem sc_Setup_lines : FnScope N_Setup_lines ["self"] (C8.fnScope s_Setup_lines) := C8.fnScope_by (by decide +kernel)
theorem ok_Setup_lines {fd : FuncData} (T : Txt K mg) (F : FunD K "lines" "Setup.lines" (C8.fnArgs s_Setup_lines) (C8.fnBody s_Setup_lines) (C8.fnScope s_Setup_lines) [] [] (prA "Setup" "lines" K) fd) :
    FnP P w K mg base 1 (prA "Setup" "lines" K) (sp_Setup_lines K) := by
  refine fnP_mk (fun_c8 F) (F.bindsN fun _ _ _ _ _ _ us hl => match us, hl with | [_], _ => rfl) sc_Setup_lines (fun vs H Q E h => ?_) (fun cdv A outer s H vs Q E hr h => ?_)
  · obtain ⟨_, _, _, rfl, _⟩ := h
    rfl
  · have nd := sc_Setup_lines.nd
    have hu := hu_of hr
    obtain ⟨su, S, K0, rfl, ⟨dx, la, wa, bn, oa, xs, h1, h2, h3, h4, h5, h6⟩, sm, q⟩ := h
    refine ⟨_, (pss_one (ps_ret (pe_fld (pv 0) rfl))), ?_⟩
    exact ⟨_, rfl, _, _, _, _, _, rfl, sm _ _ h1, T.cl_Setup, T.t_Setup_lines, rfl, q la h2⟩
abbrev N_Single_waiting : List Str := ["self"]
theorem sc_Single_waiting : FnScope N_Single_waiting ["self"] (C8.fnScope s_Single_waiting) := C8.fnScope_by (by decide +kernel)
theorem ok_Single_waiting {fd : FuncData} (T : Txt K mg) (F : FunD K "waiting" "Single.waiting" (C8.fnArgs s_Single_waiting) (C8.fnBody s_Single_waiting) (C8.fnScope s_Single_waiting) [] [] (prA "Single" "waiting" K) fd) (c_waiting_lines : C8.Met P w K mg base 6 (aC "Board" K) "waiting_lines" (sp_Board_waiting_lines K) []) :
    FnP P w K mg base 7 (prA "Single" "waiting" K) (sp_Single_waiting K) := by
  refine fnP_mk (fun_c8 F) (F.bindsN fun _ _ _ _ _ _ us hl => match us, hl with | [_], _ => rfl) sc_Single_waiting (fun vs H Q E h => ?_) (fun cdv A outer s H vs Q E hr h => ?_)
  · obtain ⟨_, _, _, _, _, _, _, _, rfl, _⟩ := h
    rfl
  · have nd := sc_Single_waiting.nd
    have hu := hu_of hr
    obtain ⟨A, S, K0, s, si, dx, now, M, rfl, ow, q⟩ := h
    refine ⟨_, (pss_one (ps_ret (C8.pe_mt0 c_waiting_lines hr (by decide) (pe_fld (pv 0) rfl)))), ?_⟩
    have hsi := ow.fr
    obtain ⟨sv, rv, h1, h2, sp⟩ := ow.ex
    have fb1 := BoardAt.up sp.ext ow.fb
    obtain ⟨db, d0, fl0, mg0, hbo, _⟩ := fb1.ex
    exact ⟨_, rfl, _, _, _, _, _, rfl, hsi, T.cl_Single, T.t_Single_board, rfl, A.bo, db, _, rfl, hbo, rfl, A.bo, A.su, A.r, A.u, S, s.rung, rfl, fb1, sp.c0, q⟩
abbrev N_check_plain : List Str := ["setup"]
theorem sc_check_plain : FnScope N_check_plain ["setup"] (C8.fnScope s_check_plain) := C8.fnScope_by (by decide +kernel)
theorem ok_check_plain {fd : FuncData} (T : Txt K mg) (F : FunD K "check_plain" "check_plain" (C8.fnArgs s_check_plain) (C8.fnBody s_check_plain) (C8.fnScope s_check_plain) [] [] (He.ga K "check_plain") fd) (c_is_plain : FnP P w K mg base 1 (prA "Setup" "is_plain" K) (sp_Setup_is_plain K)) :
    C8.Cal P w K mg base 3 "check_plain" (sp_check_plain K) [] := by
  refine C8.cal0 (ds := []) ⟨fun_c8 F, T.f_check_plain, F.kp⟩ (F.bindsN fun _ _ _ _ _ _ us hl => match us, hl with | [_], _ => rfl) .nil sc_check_plain (fun vs H Q E h => ?_) (fun cdv A outer s H vs Q E hr h => ?_)
  · obtain ⟨_, _, rfl, _⟩ := h
    rfl
  · have nd := sc_check_plain.nd
    have hu := hu_of hr
    obtain ⟨su, S, rfl, hS, ok, pl, q⟩ := h
    obtain ⟨pi, hpi⟩ := T.p_Setup_is_plain
    refine ⟨_, (pss_one (ps_if (pt_not (pt_val (C_prop hpi T.cl_Setup c_is_plain hr (by decide) (pv 0)))) (pss_one ps_never) pss_nil)), ?_⟩
    obtain ⟨dx, la, wa, bn, oa, xs, h1, h2, h3, h4, h5, h6⟩ := id hS
    exact ⟨_, rfl, su, dx, _, rfl, h1, su, S, rfl, hS, ok, pl, fun H1 g1 => ⟨true, rfl, iteF (q H1 g1)⟩⟩
abbrev N_Setup_is_plain : List Str := ["self", "ranks", "line", "words", "word", "_", "kinds", "are_edges", "kind"]
theorem sc_Setup_is_plain : FnScope N_Setup_is_plain ["self"] (C8.fnScope s_Setup_is_plain) := C8.fnScope_by (by decide +kernel)
theorem ok_Setup_is_plain {fd : FuncData} (T : Txt K mg) (F : FunD K "is_plain" "Setup.is_plain" (C8.fnArgs s_Setup_is_plain) (C8.fnBody s_Setup_is_plain) (C8.fnScope s_Setup_is_plain) [] [] (prA "Setup" "is_plain" K) fd) :
    FnP P w K mg base 1 (prA "Setup" "is_plain" K) (sp_Setup_is_plain K) := by
  refine fnP_mk (fun_c8 F) (F.bindsN fun _ _ _ _ _ _ us hl => match us, hl with | [_], _ => rfl) sc_Setup_is_plain (fun vs H Q E h => ?_) (fun cdv A outer s H vs Q E hr h => ?_)
  · obtain ⟨_, _, rfl, _⟩ := h
    rfl
  · have nd := sc_Setup_is_plain.nd
    have hu := hu_of hr
    obtain ⟨su, S, rfl, hS, ok, pl, q⟩ := h
    refine ⟨_, (pss_cons (ps_setLc (i := 1) (own := [("line", 2)]) rfl nd rfl rfl (sw_true rfl rfl rfl (by decide +kernel)) (pi_tup (pe_fld (pv 0) rfl)) (blkOk_by (own := [("line", 2)]) (N := N_Setup_is_plain) (sc := (C8.fnScope s_Setup_is_plain)) (by decide +kernel)) (fun _ _ _ _ _ => (pg_name (i := 2) nd rfl (Or.inl rfl))) (fun _ _ _ _ _ => pts_nil) (fun _ _ _ _ _ => (pe_ix (ix_tup : IxR _ (rIxT K)) (pv 2) pe_int (fun _ _ => rfl))))
      (pss_cons (ps_setLc2 (i := 3) (own := [("line", 2), ("word", 4), ("_", 5)]) (vs1 := [4, 5]) rfl nd rfl rfl (sw_true rfl rfl rfl (by decide +kernel)) (pi_tup (pe_fld (pv 0) rfl)) (blkOk_by (own := [("line", 2), ("word", 4), ("_", 5)]) (N := N_Setup_is_plain) (sc := (C8.fnScope s_Setup_is_plain)) (by decide +kernel)) (by decide) (fun _ _ _ _ _ => (pg_name (i := 2) nd rfl (Or.inl rfl))) (fun _ _ _ _ _ => pts_nil) (fun _ _ _ _ _ => (pi_tup (pe_ix (ix_tup : IxR _ (rIxT K)) (pv 2) pe_int (fun _ _ => rfl)) : PI _ _ _ (iTup K _))) (fun _ _ _ _ _ => (pg_tup (n := 2) rfl (pgs_cons (pg_name (i := 4) nd rfl (Or.inl rfl)) (pgs_cons (pg_name (i := 5) nd rfl (Or.inl rfl)) pgs_nil)) : PG _ _ (gTup K 2 _))) (fun _ _ _ _ _ => pts_nil) (fun _ _ _ _ _ => (pv 4)))
      (pss_cons (ps_setLc (i := 6) (own := [("line", 2)]) rfl nd rfl rfl (sw_true rfl rfl rfl (by decide +kernel)) (pi_tup (pe_fld (pv 0) rfl)) (blkOk_by (own := [("line", 2)]) (N := N_Setup_is_plain) (sc := (C8.fnScope s_Setup_is_plain)) (by decide +kernel)) (fun _ _ _ _ _ => (pg_name (i := 2) nd rfl (Or.inl rfl))) (fun _ _ _ _ _ => pts_nil) (fun _ _ _ _ _ => (pe_ix (ix_tup : IxR _ (rIxT K)) (pv 2) pe_int (fun _ _ => rfl))))
      (pss_cons (ps_set (i := 7) nd rfl (Or.inl rfl) (pe_callB (cr_all rfl) (by rfl) T.n_all (by decide +kernel) (pa_cons (pe_lc (own := [("kind", 8)]) rfl nd (pi_list (pv 6)) (blkOk_by (own := [("kind", 8)]) (N := N_Setup_is_plain) (sc := (C8.fnScope s_Setup_is_plain)) (by decide +kernel)) (fun _ _ _ _ _ => (pg_name (i := 8) nd rfl (Or.inl rfl))) (fun _ _ _ _ _ => pts_nil) (fun _ _ _ _ _ => (pe_cmpR op_eq (pv 8) pe_str (nomark _)))) pa_nil)))
      (pss_one (ps_ret (pe_and (pv 7) (pe_and (pe_callB (cr_all rfl) (by rfl) T.n_all (by decide +kernel) (pa_cons (pe_lc (own := [("word", 4)]) rfl nd (pi_list (pv 3)) (blkOk_by (own := [("word", 4)]) (N := N_Setup_is_plain) (sc := (C8.fnScope s_Setup_is_plain)) (by decide +kernel)) (fun _ _ _ _ _ => (pg_name (i := 4) nd rfl (Or.inl rfl))) (fun _ _ _ _ _ => pts_nil) (fun _ _ _ _ _ => (pe_cmpR op_eq (pv 4) pe_str (nomark _)))) pa_nil)) (pe_one (pe_cmpR op_eq (RZ.pe_lenSetI (by rfl) T.n_len (by rfl) T.n_set (pv 1)) (pe_callB call_len_seq (by rfl) T.n_len (by decide +kernel) (pa_cons (pv 1) pa_nil)) (nomark _))))))))))), ?_⟩
    obtain ⟨dx, la, wa, bn, oa, xs0, h1, h2, h3, h4, h5, h6⟩ := id hS
    obtain ⟨xs, hxs, hp⟩ := h2.ex
    have hpl := hp.length
    have hle := ok.ok.le
    have fld : ∀ H', Same H H' → H' su = _ := fun H' g => g _ _ h1
    refine ⟨_, rfl, _, _, _, _, _, rfl, h1, T.cl_Setup, T.t_Setup_lines, rfl, _, rfl, ⟨_, hxs⟩, fun D hD => ?_⟩
    refine lc_it (walk_tup (xs := xs)) (fun i H' => Sep H H' [(D, .lst (((S.ls.take i).map (·.rank)).map V.int))]) (Sep.nil.own hD) ?_ ?_ ?_
    · rintro i H' _ sp
      exact Same.tup sp.ext hxs
    · rintro i v H1 H2 hi sp ⟨rfl, e2⟩
      obtain ⟨l, hl, a, h, hs, rfl, ha, hh, hst⟩ := pget hp e2
      refine ⟨rfl, _, rfl, _, _, _, _, rfl, rfl, Same.tup sp.ext ha, rfl, _, sp.c0, sm (m := 12) (by simp; omega) (by decide), ?_⟩
      rw [take_snoc hl, List.map_append, List.map_append]
      exact sp.put0
    rintro H1 sp1
    rw [List.take_of_length_le (by omega)] at sp1
    have fin : ∀ (H5 : Hp) (m : Nat) (W2 K2 : Addr), True := fun _ _ _ _ => trivial
    refine ⟨_, rfl, _, _, _, _, _, rfl, sp1.ext _ _ h1, T.cl_Setup, T.t_Setup_lines, rfl, _, rfl, ⟨_, Same.tup sp1.ext hxs⟩, fun W hW => ?_⟩
    refine gen_it (walk_tup (xs := xs)) (fun i H' => ∃ m, m ≤ 8 * i ∧ Sep H H' [(W, .lst (List.replicate m (.str "run"))), (D, .lst ((S.ls.map (·.rank)).map V.int))]) ⟨0, Nat.zero_le _, sp1.own hW⟩ ?_ ?_ ?_
    · rintro i H' _ ⟨m, _, sp⟩
      exact Same.tup sp.ext hxs
    · rintro i v H2 H3 hi ⟨m, hm, sp⟩ ⟨rfl, e2⟩
      obtain ⟨l, hl, a, h, hs, rfl, ha, hh, hst⟩ := pget hp e2
      have hlS := List.mem_of_getElem? hl
      have hsl := hst.length
      have h8 := (ok.ok.ok l hlS).s8
      refine ⟨rfl, _, rfl, _, _, _, _, rfl, rfl, Same.tup sp.ext ha, rfl, _, rfl, ⟨_, Same.tup sp.ext hh⟩, ?_⟩
      refine gen_it (walk_tup (xs := hs)) (fun j H' => Sep H H' [(W, .lst (List.replicate (m + j) (.str "run"))), (D, .lst ((S.ls.map (·.rank)).map V.int))]) sp ?_ ?_ ?_
      · rintro j H' _ sp
        exact Same.tup sp.ext hh
      · rintro j v H4 H5 hj sp ⟨rfl, e3⟩
        obtain ⟨st, hst1, b, rfl, hb⟩ := pget hst e3
        obtain ⟨n, rfl⟩ := (pl.ed l hlS).2 st (List.mem_of_getElem? hst1)
        refine ⟨_, _, rfl, Same.tup sp.ext hb, rfl, _, _, rfl, _, _, rfl, rfl, rfl, _, rfl, _, sp.c0, sm (m := 200) (by simp; omega) (by decide), ?_⟩
        rw [← Nat.add_assoc, List.replicate_succ']
        exact sp.put0
      · rintro H4 sp
        exact ⟨m + hs.length, by omega, sp⟩
    rintro H2 ⟨m, hm, sp2⟩
    refine ⟨_, rfl, _, _, _, _, _, rfl, sp2.ext _ _ h1, T.cl_Setup, T.t_Setup_lines, rfl, _, rfl, ⟨_, Same.tup sp2.ext hxs⟩, fun Ki hKi => ?_⟩
    refine lc_it (walk_tup (xs := xs)) (fun i H' => Sep H H' [(Ki, .lst (List.replicate i (.str "edge"))), (W, .lst (List.replicate m (.str "run"))), (D, .lst ((S.ls.map (·.rank)).map V.int))]) (sp2.own hKi) ?_ ?_ ?_
    · rintro i H' _ sp
      exact Same.tup sp.ext hxs
    · rintro i v H3 H4 hi sp ⟨rfl, e2⟩
      obtain ⟨l, hl, a, h, hs, rfl, ha, hh, hst⟩ := pget hp e2
      have hed := (pl.ed l (List.mem_of_getElem? hl)).1
      refine ⟨rfl, _, rfl, _, _, _, _, rfl, rfl, Same.tup sp.ext ha, rfl, _, sp.c0, sm (m := 12) (by simp; omega) (by decide), ?_⟩
      rw [List.replicate_succ', hed]
      exact sp.put0
    rintro H3 sp3
    refine ⟨_, rfl, _, rfl, ⟨_, l_of sp3.c0⟩, fun A1 hA1 => ?_⟩
    refine lc_it (walk_list (xs := List.replicate xs.length (V.str "edge"))) (fun i H' => Sep H H' [(A1, .lst (List.replicate i (.bl true))), (Ki, .lst (List.replicate xs.length (.str "edge"))), (W, .lst (List.replicate m (.str "run"))), (D, .lst ((S.ls.map (·.rank)).map V.int))]) (sp3.own hA1) ?_ ?_ ?_
    · rintro i H' _ sp
      exact l_of sp.c1
    · rintro i v H4 H5 hi sp ⟨rfl, e2⟩
      have ev : v = .str "edge" := (List.mem_replicate.mp (List.mem_of_getElem? e2)).2
      subst ev
      refine ⟨rfl, _, rfl, rfl, _, sp.c0, sm (m := 12) (by simp at hi ⊢; omega) (by decide), ?_⟩
      rw [List.replicate_succ', decide_eq_true rfl]
      exact sp.put0
    rintro H4 sp4
    refine ⟨_, List.replicate xs.length true, rfl, l_of (by rw [List.map_replicate]; simpa using sp4.c0), ?_⟩
    rw [show (List.replicate xs.length true).all id = true by simp]
    refine ⟨_, rfl, true, rfl, iteT ?_⟩
    refine ⟨_, rfl, _, rfl, ⟨_, l_of sp4.c2⟩, fun A2 hA2 => ?_⟩
    refine lc_it (walk_list (xs := List.replicate m (V.str "run"))) (fun i H' => Sep H H' [(A2, .lst (List.replicate i (.bl true))), (A1, .lst (List.replicate (List.replicate xs.length (V.str "edge")).length (.bl true))), (Ki, .lst (List.replicate xs.length (.str "edge"))), (W, .lst (List.replicate m (.str "run"))), (D, .lst ((S.ls.map (·.rank)).map V.int))]) (sp4.own hA2) ?_ ?_ ?_
    · rintro i H' _ sp
      exact l_of sp.c3
    · rintro i v H5 H6 hi sp ⟨rfl, e2⟩
      have ev : v = .str "run" := (List.mem_replicate.mp (List.mem_of_getElem? e2)).2
      subst ev
      refine ⟨rfl, _, rfl, rfl, _, sp.c0, sm (m := 200) (by simp at hi ⊢; omega) (by decide), ?_⟩
      rw [List.replicate_succ', decide_eq_true rfl]
      exact sp.put0
    rintro H5 sp5
    refine ⟨_, List.replicate m true, rfl, l_of (by rw [List.map_replicate]; simpa using sp5.c0), ?_⟩
    rw [show (List.replicate m true).all id = true by simp]
    refine ⟨true, rfl, iteT ?_⟩
    have hD5 := sp5.c4
    refine ⟨_, rfl, D, S.ls.map (·.rank), rfl, l_of hD5, pl.rk, by simp; omega, ?_⟩
    refine ⟨_, rfl, _, _, rfl, .inl (l_of hD5), rfl, ?_⟩
    rw [show decide (V.int ((S.ls.map (·.rank)).length : Nat) = V.int (((S.ls.map (·.rank)).map V.int).length : Nat)) = true from decide_eq_true (by simp)]
    exact q _ sp5.ext
end
end Cb

namespace Cb
open PySem PySem.Spec PyProof.Rows L2

structure LA where
  x : Addr
  dx : Addr
  rk : Addr
  cs : Addr
  st : Addr
  op : Addr
def nms' (S : SetD) : List Str := S.ls.map (·.name)
def lpI (K : PySem.W.Frag) (A : LA) (now least : Int) : HO := .ins (aC "LogPlay" K) A.dx [("_ranks", .ref A.rk), ("_costs", .ref A.cs), ("_now", .int now), ("_least", .int least), ("_stack", .ref A.st), ("_open", .ref A.op)]
def PrAt (K : PySem.W.Frag) (H : Hp) (v : V) (e : Int × Int) : Prop := ∃ t, v = .ref t ∧ SqT K H t [.int e.1, .int e.2]
theorem PrAt.up {K : PySem.W.Frag} {H H' : Hp} {v : V} {r : Int × Int} (e : Same H H') (h : PrAt K H v r) : PrAt K H' v r := h.elim fun a h => ⟨a, h.1, Same.tup e h.2⟩
structure LOwn (K : PySem.W.Frag) (A : LA) (S : SetD) (K0 H : Hp) (p : LP) (M : List (Addr × HO)) : Prop where
  rkd : K0 A.rk = some (.dK (md (nms' S) (rkN S)))
  csd : K0 A.cs = some (.dK (md (nms' S) (csN S)))
  ok : SetOk S
  ex : ∃ sv, Paired (PrAt K K0) sv p.stk ∧ Sep K0 H ((A.x, lpI K A p.now p.least) :: (A.st, .lst sv) :: (A.op, .dK (md (nms' S) p.opn)) :: M)
theorem nm_mem {S : SetD} {l : LineD} (h : l ∈ S.ls) : l.name ∈ nms' S := List.mem_map_of_mem h
theorem nm_len {S : SetD} (h : SetOk S) : (nms' S).length ≤ 12 := by
  have := h.ok.le
  simpa [nms'] using this
theorem md_congr {o : List Str} {f g : Str → Int} (h : ∀ n ∈ o, f n = g n) : md o f = md o g := List.map_congr_left fun n m => by rw [h n m]
theorem md_keys (o : List Str) (f : Str → Int) : (md o f).map (fun kv => kV kv.1) = o.map V.str := by
  unfold md
  rw [List.map_map]
  rfl
def sp_LogPlay_init (K : PySem.W.Frag) : Sp := fun vs H Q _ => ∃ (x dx su : Addr) (S : SetD) (K0 : Hp) (M : List (Addr × HO)), vs = [.ref x, .ref su] ∧ Sep K0 H ((x, .ins (aC "LogPlay" K) dx []) :: M) ∧ SetupAt K K0 su S ∧ SetOk S ∧
  ∀ K1 H' A, Same K0 K1 → A.x = x → LOwn K A S K1 H' lp0 M → Q .non H'
def sp_LogPlay_is_formed (K : PySem.W.Frag) : Sp := fun vs H Q _ => ∃ (A : LA) (S : SetD) (K0 : Hp) (p : LP) (M : List (Addr × HO)) (t : Addr) (x : Int × LineD), vs = [.ref A.x, .ref t] ∧ LOwn K A S K0 H p M ∧ SqT K K0 t [.int x.1, .str x.2.name] ∧ x.2 ∈ S.ls ∧ p.least ≤ x.1 ∧ x.1 ≤ 1000000 ∧ Q (.bl true) H
def sp_LogPlay_go_by (K : PySem.W.Frag) : Sp := fun vs H Q _ => ∃ (A : LA) (S : SetD) (K0 : Hp) (p : LP) (M : List (Addr × HO)) (r k : Int), vs = [.ref A.x, .int r, .int k] ∧ LOwn K A S K0 H p M ∧
  ∀ H', LOwn K A S K0 H' (byP (rkN S) r k p) M → Q .non H'
def sp_LogPlay_go_on_until (K : PySem.W.Frag) : Sp := fun vs H Q _ => ∃ (A : LA) (S : SetD) (K0 : Hp) (p : LP) (M : List (Addr × HO)) (t : Int), vs = [.ref A.x, .int t] ∧ LOwn K A S K0 H p M ∧ Pos1 p.stk ∧ p.stk.length ≤ 3000 ∧
  ∀ K1 H', Same K0 K1 → LOwn K A S K1 H' (lgo (rkN S) p t) M → Q .non H'
def sp_LogPlay_lets_by (K : PySem.W.Frag) : Sp := fun vs H Q _ => ∃ (A : LA) (S : SetD) (K0 : Hp) (p : LP) (M : List (Addr × HO)) (l : LineD), vs = [.ref A.x, .str l.name] ∧ LOwn K A S K0 H p M ∧ l ∈ S.ls ∧ Q (.bl (lets p l)) H
def sp_LogPlay_earliest_ring (K : PySem.W.Frag) : Sp := fun vs H Q _ => ∃ (A : LA) (S : SetD) (K0 : Hp) (p : LP) (M : List (Addr × HO)) (l : LineD), vs = [.ref A.x, .str l.name] ∧ LOwn K A S K0 H p M ∧ l ∈ S.ls ∧ Q (.int (p.opn l.name + 1)) H
def sp_LogPlay_begin (K : PySem.W.Frag) : Sp := fun vs H Q _ => ∃ (A : LA) (S : SetD) (K0 : Hp) (p : LP) (M : List (Addr × HO)) (l : LineD), vs = [.ref A.x, .str l.name] ∧ LOwn K A S K0 H p M ∧ l ∈ S.ls ∧ p.stk.length ≤ 3000 ∧
  ∀ K1 H', Same K0 K1 → LOwn K A S K1 H' (lbeg p l) M → Q .non H'

section
variable {P : Program} {w : World} {K : PySem.W.Frag} {mg : Str → Option Value} {base : Heap}

abbrev N_LogPlay_is_formed : List Str := ["self", "item", "tick", "line"]
theorem sc_LogPlay_is_formed : FnScope N_LogPlay_is_formed ["self", "item"] (C8.fnScope s_LogPlay_is_formed) := C8.fnScope_by (by decide +kernel)
theorem ok_LogPlay_is_formed {fd : FuncData} (T : Txt K mg) (F : FunD K "is_formed" "LogPlay.is_formed" (C8.fnArgs s_LogPlay_is_formed) (C8.fnBody s_LogPlay_is_formed) (C8.fnScope s_LogPlay_is_formed) [] [] (He.ma K (aC "LogPlay" K) "is_formed") fd) (c_is_integer : C8.Cal P w K mg base 1 "is_integer" sp_is_integer []) :
    C8.Met P w K mg base 2 (aC "LogPlay" K) "is_formed" (sp_LogPlay_is_formed K) [] := by
  refine C8.met0 T.cl_LogPlay T.m_LogPlay_is_formed (fun_c8 F) (F.bindsN fun _ _ _ _ _ _ us hl => match us, hl with | [_, _], _ => rfl) sc_LogPlay_is_formed (fun vs H Q E h => ?_) (fun cdv A outer s H vs Q E hr h => ?_)
  · obtain ⟨_, _, _, _, _, _, _, rfl, _⟩ := h
    rfl
  · have nd := sc_LogPlay_is_formed.nd
    have hu := hu_of hr
    obtain ⟨A, S, K0, p, M, t, x, rfl, ow, ht, hl, h1, h2, q⟩ := h
    refine ⟨_, (pss_cons (ps_if (PW.pt (pw_or (pt_not (pt_val (pe_callB call_is (by rfl) T.n_isinstance (by decide +kernel) (pa_cons (pv 1) (pa_cons (pe_bltn (v := .ty "tuple") rfl T.n_tuple (by decide +kernel) rfl) pa_nil))))) (pw_or1 (pt_cmpR op_ne (pe_callB call_len_seq (by rfl) T.n_len (by decide +kernel) (pa_cons (pv 1) pa_nil)) pe_int (nomark _))))) (pss_one (ps_ret pe_bl)) pss_nil)
      (pss_cons (ps_asg (pv 1) (pg_tup rfl (pgs_cons (pg_name (i := 2) nd rfl (Or.inl rfl)) (pgs_cons (pg_name (i := 3) nd rfl (Or.inl rfl)) pgs_nil))))
      (pss_one (ps_ret (pe_and (C8.pe_c c_is_integer hr (by decide) rfl (pa_cons (pv 2) (pa_cons (pe_fld (pv 0) rfl) (pa_cons (C8.pe_gc rfl T.k_MAX_TICK) pa_nil)))) (pe_and (pe_callB call_is (by rfl) T.n_isinstance (by decide +kernel) (pa_cons (pv 3) (pa_cons (pe_bltn (v := .ty "str") rfl T.n_str (by decide +kernel) rfl) pa_nil))) (pe_one (pe_cmp (pc_din hu (pv 3) (pe_fld (pv 0) rfl)) rfl)))))))), ?_⟩
    obtain ⟨sv, hp, sp⟩ := ow.ex
    have hx := sp.c0
    have htu := Same.tup sp.ext ht
    refine ⟨_, rfl, _, _, _, _, rfl, ty_tup htu, kb4, true, rfl, iteF ⟨_, rfl, _, _, rfl, .inr htu, rfl, false, rfl, iteF ?_⟩⟩
    refine ⟨_, rfl, _, _, rfl, htu, rfl, _, _, rfl, _, _, rfl, rfl, ?_⟩
    refine ⟨_, rfl, _, rfl, _, _, _, _, _, rfl, hx, T.cl_LogPlay, T.t_LogPlay_least, rfl, _, _, _, rfl, true, congrArg V.bl (by simp [h1, h2]), iteT ?_⟩
    refine ⟨_, rfl, _, _, _, _, rfl, ty_str, kb3, true, rfl, iteT ?_⟩
    refine ⟨_, rfl, _, rfl, _, _, _, _, _, rfl, hx, T.cl_LogPlay, T.t_LogPlay_ranks, rfl, A.rk, some (.int (rkN S x.2.name)), rfl, md_at (nm_mem hl) ▸ DGet.k (k := .inr x.2.name) (sp.ext _ _ ow.rkd), q⟩
abbrev N_LogPlay_lets_by : List Str := ["self", "line"]
theorem sc_LogPlay_lets_by : FnScope N_LogPlay_lets_by ["self", "line"] (C8.fnScope s_LogPlay_lets_by) := C8.fnScope_by (by decide +kernel)
theorem ok_LogPlay_lets_by {fd : FuncData} (T : Txt K mg) (F : FunD K "lets_by" "LogPlay.lets_by" (C8.fnArgs s_LogPlay_lets_by) (C8.fnBody s_LogPlay_lets_by) (C8.fnScope s_LogPlay_lets_by) [] [] (He.ma K (aC "LogPlay" K) "lets_by") fd) :
    C8.Met P w K mg base 1 (aC "LogPlay" K) "lets_by" (sp_LogPlay_lets_by K) [] := by
  refine C8.met0 T.cl_LogPlay T.m_LogPlay_lets_by (fun_c8 F) (F.bindsN fun _ _ _ _ _ _ us hl => match us, hl with | [_, _], _ => rfl) sc_LogPlay_lets_by (fun vs H Q E h => ?_) (fun cdv A outer s H vs Q E hr h => ?_)
  · obtain ⟨_, _, _, _, _, _, rfl, _⟩ := h
    rfl
  · have nd := sc_LogPlay_lets_by.nd
    have hu := hu_of hr
    obtain ⟨A, S, K0, p, M, l, rfl, ow, hl, q⟩ := h
    refine ⟨_, (pss_one (ps_ret (pe_or (pe_notT (pe_fld (pv 0) rfl)) (pe_one (pe_cmpR op_lt (pe_ix ix_tup (pe_ix ix_list (pe_fld (pv 0) rfl) (pe_un un_neg pe_int) (fun _ _ => rfl)) pe_int (fun _ _ => rfl)) (pe_dget hu (pe_fld (pv 0) rfl) (pv 1) (fun _ _ => rfl)) (nomark _)))))), ?_⟩
    obtain ⟨sv, hp, sp⟩ := ow.ex
    have hx := sp.c0
    rcases List.eq_nil_or_concat p.stk with e1 | ⟨rest, y, e1⟩
    · have q2 : Q (.bl true) H := by
        have z : lets p l = true := by unfold lets; rw [e1]; rfl
        rwa [z] at q
      rw [e1] at hp
      cases hp
      exact ⟨_, rfl, _, _, _, _, _, rfl, hx, T.cl_LogPlay, T.t_LogPlay_stack, rfl, false, .inl ⟨_, l_of sp.c1, rfl⟩, true, rfl, iteT q2⟩
    · rw [List.concat_eq_append] at e1
      rw [e1] at hp
      obtain ⟨sv', v, rfl, h4, t, rfl, ht⟩ := psnoc hp
      have q2 : Q (.bl (decide (y.1 < l.rank))) H := by
        have z : lets p l = decide (y.1 < l.rank) := by unfold lets; rw [e1, List.getLast?_concat]
        rwa [z] at q
      refine ⟨_, rfl, _, _, _, _, _, rfl, hx, T.cl_LogPlay, T.t_LogPlay_stack, rfl, true, .inl ⟨_, l_of sp.c1, by simp⟩, false, rfl, iteF ?_⟩
      refine ⟨_, rfl, _, _, _, _, _, rfl, hx, T.cl_LogPlay, T.t_LogPlay_stack, rfl, _, rfl, _, _, _, _, rfl, rfl, l_of sp.c1, atIm, _, _, _, _, rfl, rfl, Same.tup sp.ext ht, rfl, ?_⟩
      refine ⟨_, rfl, _, _, _, _, _, rfl, hx, T.cl_LogPlay, T.t_LogPlay_ranks, rfl, _, rfl, A.rk, .int (rkN S l.name), rfl, md_at (nm_mem hl) ▸ DGet.k (k := .inr l.name) (sp.ext _ _ ow.rkd), _, _, rfl, rfl, ?_⟩
      rw [rkN_eq ow.ok hl]
      exact q2
abbrev N_LogPlay_earliest_ring : List Str := ["self", "line"]
theorem sc_LogPlay_earliest_ring : FnScope N_LogPlay_earliest_ring ["self", "line"] (C8.fnScope s_LogPlay_earliest_ring) := C8.fnScope_by (by decide +kernel)
theorem ok_LogPlay_earliest_ring {fd : FuncData} (T : Txt K mg) (F : FunD K "earliest_ring" "LogPlay.earliest_ring" (C8.fnArgs s_LogPlay_earliest_ring) (C8.fnBody s_LogPlay_earliest_ring) (C8.fnScope s_LogPlay_earliest_ring) [] [] (He.ma K (aC "LogPlay" K) "earliest_ring") fd) :
    C8.Met P w K mg base 1 (aC "LogPlay" K) "earliest_ring" (sp_LogPlay_earliest_ring K) [] := by
  refine C8.met0 T.cl_LogPlay T.m_LogPlay_earliest_ring (fun_c8 F) (F.bindsN fun _ _ _ _ _ _ us hl => match us, hl with | [_, _], _ => rfl) sc_LogPlay_earliest_ring (fun vs H Q E h => ?_) (fun cdv A outer s H vs Q E hr h => ?_)
  · obtain ⟨_, _, _, _, _, _, rfl, _⟩ := h
    rfl
  · have nd := sc_LogPlay_earliest_ring.nd
    have hu := hu_of hr
    obtain ⟨A, S, K0, p, M, l, rfl, ow, hl, q⟩ := h
    refine ⟨_, (pss_one (ps_ret (pe_op op_add (pe_dget hu (pe_fld (pv 0) rfl) (pv 1) (fun _ _ => rfl)) pe_int))), ?_⟩
    obtain ⟨sv, hp, sp⟩ := ow.ex
    have hx := sp.c0
    refine ⟨_, rfl, _, _, _, _, _, rfl, hx, T.cl_LogPlay, T.t_LogPlay_open, rfl, _, rfl, A.op, _, rfl, md_at (nm_mem hl) ▸ DGet.k (k := .inr l.name) sp.c2, _, _, rfl, rfl, q⟩
abbrev N_LogPlay_begin : List Str := ["self", "line"]
theorem sc_LogPlay_begin : FnScope N_LogPlay_begin ["self", "line"] (C8.fnScope s_LogPlay_begin) := C8.fnScope_by (by decide +kernel)
theorem ok_LogPlay_begin {fd : FuncData} (T : Txt K mg) (F : FunD K "begin" "LogPlay.begin" (C8.fnArgs s_LogPlay_begin) (C8.fnBody s_LogPlay_begin) (C8.fnScope s_LogPlay_begin) [] [] (He.ma K (aC "LogPlay" K) "begin") fd) :
    C8.Met P w K mg base 1 (aC "LogPlay" K) "begin" (sp_LogPlay_begin K) [] := by
  refine C8.met0 T.cl_LogPlay T.m_LogPlay_begin (fun_c8 F) (F.bindsN fun _ _ _ _ _ _ us hl => match us, hl with | [_, _], _ => rfl) sc_LogPlay_begin (fun vs H Q E h => ?_) (fun cdv A outer s H vs Q E hr h => ?_)
  · obtain ⟨_, _, _, _, _, _, rfl, _⟩ := h
    rfl
  · have nd := sc_LogPlay_begin.nd
    have hu := hu_of hr
    obtain ⟨A, S, K0, p, M, l, rfl, ow, hl, hlen, q⟩ := h
    refine ⟨_, (pss_cons (ps_expr (pe_bm PySem.F.plainAttrs_list PySem.F.slot_list_append PySem.F.type_list_append mt_append (pe_fld (pv 0) rfl) (pa_cons (pe_tup (pa_cons (pe_dget hu (pe_fld (pv 0) rfl) (pv 1) (fun _ _ => rfl)) (pa_cons (pe_dget hu (pe_fld (pv 0) rfl) (pv 1) (fun _ _ => rfl)) pa_nil))) pa_nil)))
      (pss_cons (ps_dput hu (pe_fld (pv 0) rfl) (pv 1) (pe_fld (pv 0) rfl) rfl)
      (pss_one (ps_fld (pv 0) (pe_op op_add (pe_fld (pv 0) rfl) pe_int) rfl)))), ?_⟩
    obtain ⟨sv, hp, sp⟩ := ow.ex
    have hx := sp.c0
    have hpl := hp.length
    have er := rkN_eq ow.ok hl
    have ec := csN_eq ow.ok hl
    refine ⟨_, rfl, _, _, _, _, _, rfl, hx, T.cl_LogPlay, T.t_LogPlay_stack, rfl, .inl ⟨rfl, _, .inl (.inl sp.c1)⟩, _, rfl, _, _, _, _, _, rfl, hx, T.cl_LogPlay, T.t_LogPlay_ranks, rfl, _, rfl, A.rk, .int (rkN S l.name), rfl, md_at (nm_mem hl) ▸ DGet.k (k := .inr l.name) (sp.ext _ _ ow.rkd), _, rfl, _, _, _, _, _, rfl, hx, T.cl_LogPlay, T.t_LogPlay_costs, rfl, _, rfl, A.cs, .int (csN S l.name), rfl, md_at (nm_mem hl) ▸ DGet.k (k := .inr l.name) (sp.ext _ _ ow.csd), small8 (by simp), fun t ht => ?_⟩
    have sp1 := sp.keep (o := .tup [.int (rkN S l.name), .int (csN S l.name)]) ht
    have g := sp.newk (o := .tup [.int (rkN S l.name), .int (csN S l.name)]) ht
    refine ⟨_, _, _, rfl, rfl, sp1.c1, sm (m := 3500) (by omega) (by decide), ?_⟩
    have sp2 := sp1.put1 (y := .lst (sv ++ [.ref t]))
    have hx := sp2.c0
    have dp := DPut.k (k := .inr l.name) (v := .int p.now) sp2.c2 (sm (m := 12) (by have := nm_len ow.ok; simpa [md] using this) (by decide))
    rw [putK_md (nm_mem hl)] at dp
    refine ⟨_, rfl, _, _, _, _, _, rfl, hx, T.cl_LogPlay, T.t_LogPlay_now, rfl, _, rfl, _, _, _, _, _, rfl, hx, T.cl_LogPlay, T.t_LogPlay_open, rfl, _, rfl, A.op, _, rfl, dp, ?_⟩
    have sp3 := sp2.put2 (y := .dK (md (nms' S) (nset p.opn l.name p.now)))
    have hx3 := sp3.c0
    refine ⟨_, rfl, _, _, _, _, _, rfl, hx3, T.cl_LogPlay, T.t_LogPlay_now, rfl, _, _, rfl, rfl, _, rfl, _, _, _, _, rfl, hx3, T.cl_LogPlay, T.t_LogPlay_least, (by simp), ?_⟩
    have sp4 := sp3.put0 (o' := lpI K A p.now (p.now + 1))
    exact q _ _ g ⟨g _ _ ow.rkd, g _ _ ow.csd, ow.ok, _, Paired.snoc (hp.mono fun _ _ z => PrAt.up g z) ⟨t, rfl, by rw [← er, ← ec]; exact t_of upd_same⟩, sp4⟩
abbrev N_LogPlay_go_by : List Str := ["self", "rank", "ticks", "line"]
theorem sc_LogPlay_go_by : FnScope N_LogPlay_go_by ["self", "rank", "ticks"] (C8.fnScope s_LogPlay_go_by) := C8.fnScope_by (by decide +kernel)
theorem ok_LogPlay_go_by {fd : FuncData} (T : Txt K mg) (F : FunD K "_go_by" "LogPlay._go_by" (C8.fnArgs s_LogPlay_go_by) (C8.fnBody s_LogPlay_go_by) (C8.fnScope s_LogPlay_go_by) [] [] (He.ma K (aC "LogPlay" K) "_go_by") fd) :
    C8.Met P w K mg base 1 (aC "LogPlay" K) "_go_by" (sp_LogPlay_go_by K) [] := by
  refine C8.met0 T.cl_LogPlay T.m_LogPlay_go_by (fun_c8 F) (F.bindsN fun _ _ _ _ _ _ us hl => match us, hl with | [_, _, _], _ => rfl) sc_LogPlay_go_by (fun vs H Q E h => ?_) (fun cdv A outer s H vs Q E hr h => ?_)
  · obtain ⟨_, _, _, _, _, _, _, rfl, _⟩ := h
    rfl
  · have nd := sc_LogPlay_go_by.nd
    have hu := hu_of hr
    obtain ⟨A, S, K0, p, M, r, k, rfl, ow, q⟩ := h
    refine ⟨_, (pss_cons (ps_fldaug (pv 0) (pv 2) in_add)
      (pss_one (ps_for PassesOwn.never rfl (pi_list (pe_callTy (call_list_dK rfl) (by rfl) T.n_list (by decide +kernel) (pa_cons (pe_fld (pv 0) rfl) pa_nil))) (pg_name (i := 3) nd rfl (Or.inl rfl)) (pss_one (ps_if (pt_cmpR op_gt (pe_dget hu (pe_fld (pv 0) rfl) (pv 3) (fun _ _ => rfl)) (pv 1) (nomark _)) (pss_one (ps_dput hu (pe_fld (pv 0) rfl) (pv 3) (pe_op op_sub (pe_fld (pv 0) rfl) pe_int) rfl)) pss_nil))))), ?_⟩
    obtain ⟨sv, hp, sp⟩ := ow.ex
    have hx := sp.c0
    refine ⟨_, rfl, _, _, _, _, _, rfl, hx, T.cl_LogPlay, T.t_LogPlay_now, rfl, _, rfl, _, _, rfl, rfl, _, _, hx, by simp, ?_⟩
    have sp1 := sp.put0 (o' := lpI K A (p.now + k) p.least)
    have hx1 := sp1.c0
    refine ⟨_, rfl, _, _, _, _, _, rfl, hx1, T.cl_LogPlay, T.t_LogPlay_open, rfl, A.op, _, rfl, sp1.c2, fun D hD => ?_⟩
    rw [md_keys]
    refine ⟨_, rfl, ⟨_, l_of upd_same⟩, ?_⟩
    refine for_it (walk_list (xs := (nms' S).map V.str)) (fun i σ H' => ∃ y3, σ = [some (.ref A.x), some (.int r), some (.int k), y3] ∧ Sep K0 H' ((D, .lst ((nms' S).map V.str)) :: (A.x, lpI K A (p.now + k) p.least) :: (A.st, .lst sv) :: (A.op, .dK (md (nms' S) fun n => if n ∈ (nms' S).take i ∧ r < rkN S n then p.now + k - 1 else p.opn n)) :: M)) ⟨_, rfl, ?_⟩ ?_ ?_ ?_
    · have z := sp1.own (o := .lst ((nms' S).map V.str)) hD
      rw [md_congr (g := p.opn) fun n _ => by simp]
      exact z
    · rintro i σ H' _ ⟨y3, rfl, sp2⟩
      exact l_of sp2.c0
    · rintro i v σ H2 H3 hi ⟨y3, rfl, sp2⟩ ⟨rfl, e2⟩
      rw [List.getElem?_map] at e2
      obtain ⟨n, hn, rfl⟩ := Option.map_eq_some_iff.mp e2
      have hno : n ∈ nms' S := List.mem_of_getElem? hn
      have hx2 := sp2.c1
      refine ⟨_, rfl, _, _, _, _, _, rfl, hx2, T.cl_LogPlay, T.t_LogPlay_ranks, rfl, _, rfl, A.rk, .int (rkN S n), rfl, md_at hno ▸ DGet.k (k := .inr n) (sp2.ext _ _ ow.rkd), _, rfl, _, _, rfl, rfl, decide (r < rkN S n), rfl, ?_⟩
      have tk : ∀ m, m ∈ (nms' S).take (i + 1) ↔ m ∈ (nms' S).take i ∨ m = n := fun m => by rw [take_snoc hn]; simp
      by_cases hr : r < rkN S n
      · rw [decide_eq_true hr]
        have dp := DPut.k (k := .inr n) (v := .int (p.now + k - 1)) sp2.c3 (sm (m := 12) (by have := nm_len ow.ok; simpa [md] using this) (by decide))
        rw [putK_md hno] at dp
        refine iteT ⟨_, rfl, _, _, _, _, _, rfl, hx2, T.cl_LogPlay, T.t_LogPlay_now, rfl, _, _, rfl, rfl, _, rfl, _, _, _, _, _, rfl, hx2, T.cl_LogPlay, T.t_LogPlay_open, rfl, _, rfl, A.op, _, rfl, dp, ?_⟩
        refine ⟨_, rfl, ?_⟩
        have z := sp2.put3 (y := .dK (md (nms' S) (nset (fun n => if n ∈ (nms' S).take i ∧ r < rkN S n then p.now + k - 1 else p.opn n) n (p.now + k - 1))))
        have ee : md (nms' S) (fun m => if m ∈ (nms' S).take (i + 1) ∧ r < rkN S m then p.now + k - 1 else p.opn m) = md (nms' S) (nset (fun n => if n ∈ (nms' S).take i ∧ r < rkN S n then p.now + k - 1 else p.opn n) n (p.now + k - 1)) := md_congr fun m _ => by
          unfold nset
          by_cases e : m = n
          · subst e
            simp [tk, hr]
          · simp [tk, e]
        rw [ee]
        exact z
      · rw [decide_eq_false hr]
        refine iteF ⟨_, rfl, ?_⟩
        rw [md_congr (g := fun n => if n ∈ (nms' S).take i ∧ r < rkN S n then p.now + k - 1 else p.opn n) fun m _ => by
          by_cases e : m = n
          · subst e
            simp [hr]
          · simp [tk, e]]
        exact sp2
    · rintro σ H2 ⟨y3, rfl, sp2⟩
      refine q _ ⟨ow.rkd, ow.csd, ow.ok, sv, hp, ?_⟩
      have z := sp2.tail
      rw [List.take_of_length_le (by simp)] at z
      rw [md_congr (g := (byP (rkN S) r k p).opn) fun n hn => by
        show (if n ∈ nms' S ∧ r < rkN S n then p.now + k - 1 else p.opn n) = if r < rkN S n then p.now + k - 1 else p.opn n
        simp [hn]] at z
      exact z
abbrev N_LogPlay_go_on_until : List Str := ["self", "tick", "rank", "left", "spent"]
theorem sc_LogPlay_go_on_until : FnScope N_LogPlay_go_on_until ["self", "tick"] (C8.fnScope s_LogPlay_go_on_until) := C8.fnScope_by (by decide +kernel)
theorem ok_LogPlay_go_on_until {fd : FuncData} (T : Txt K mg) (F : FunD K "go_on_until" "LogPlay.go_on_until" (C8.fnArgs s_LogPlay_go_on_until) (C8.fnBody s_LogPlay_go_on_until) (C8.fnScope s_LogPlay_go_on_until) [] [] (He.ma K (aC "LogPlay" K) "go_on_until") fd) (c_go_by : C8.Met P w K mg base 1 (aC "LogPlay" K) "_go_by" (sp_LogPlay_go_by K) []) :
    C8.Met P w K mg base 2 (aC "LogPlay" K) "go_on_until" (sp_LogPlay_go_on_until K) [] := by
  refine C8.met0 T.cl_LogPlay T.m_LogPlay_go_on_until (fun_c8 F) (F.bindsN fun _ _ _ _ _ _ us hl => match us, hl with | [_, _], _ => rfl) sc_LogPlay_go_on_until (fun vs H Q E h => ?_) (fun cdv A outer s H vs Q E hr h => ?_)
  · obtain ⟨_, _, _, _, _, _, rfl, _⟩ := h
    rfl
  · have nd := sc_LogPlay_go_on_until.nd
    have hu := hu_of hr
    obtain ⟨A, S, K0, p, M, t, rfl, ow, hpos, hlen, q⟩ := h
    refine ⟨_, (pss_one (ps_while PassesOwn.never (pt_cmpR op_lt (pe_fld (pv 0) rfl) (pv 1) (nomark _)) (pss_cons (ps_if (pt_not (pt_truth (pe_fld (pv 0) rfl) (by intro _; rfl))) (pss_cons (ps_expr (C8.pe_mt c_go_by hr (by decide) (pv 0) (pa_cons pe_int (pa_cons (pe_op op_sub (pv 1) (pe_fld (pv 0) rfl)) pa_nil))))
      (pss_one ps_retN)) pss_nil)
      (pss_cons (ps_asg (pe_bm0 PySem.F.plainAttrs_list PySem.F.slot_list_pop PySem.F.type_list_pop mt_pop (pe_fld (pv 0) rfl)) (pg_tup rfl (pgs_cons (pg_name (i := 2) nd rfl (Or.inl rfl)) (pgs_cons (pg_name (i := 3) nd rfl (Or.inl rfl)) pgs_nil))))
      (pss_cons (ps_set (i := 4) nd rfl (Or.inl rfl) (pe_callB (call_min2 rfl) (by rfl) T.n_min (by decide +kernel) (pa_cons (pv 3) (pa_cons (pe_op op_sub (pv 1) (pe_fld (pv 0) rfl)) pa_nil))))
      (pss_cons (ps_if (pt_cmpR op_gt (pv 3) (pv 4) (nomark _)) (pss_one (ps_expr (pe_bm PySem.F.plainAttrs_list PySem.F.slot_list_append PySem.F.type_list_append mt_append (pe_fld (pv 0) rfl) (pa_cons (pe_tup (pa_cons (pv 2) (pa_cons (pe_op op_sub (pv 3) (pv 4)) pa_nil))) pa_nil)))) pss_nil)
      (pss_one (ps_expr (C8.pe_mt c_go_by hr (by decide) (pv 0) (pa_cons (pv 2) (pa_cons (pv 4) pa_nil))))))))))), ?_⟩
    refine ⟨fun m σ H' => ∃ y2 y3 y4 K' p', m = (t - p'.now).toNat ∧ σ = [some (.ref A.x), some (.int t), y2, y3, y4] ∧ Same K0 K' ∧ LOwn K A S K' H' p' M ∧ Pos1 p'.stk ∧ p'.stk.length ≤ 3000 ∧ lgo (rkN S) p' t = lgo (rkN S) p t, ⟨_, _, _, _, K0, p, rfl, rfl, Same.refl _, ow, hpos, hlen, rfl⟩, ?_⟩
    rintro m σ H1 ⟨y2, y3, y4, K', p', rfl, rfl, g, ow, hpos, hlen, heq⟩
    obtain ⟨sv, hp, sp⟩ := ow.ex
    have hx := sp.c0
    have hpl := hp.length
    refine ⟨_, rfl, _, _, _, _, _, rfl, hx, T.cl_LogPlay, T.t_LogPlay_now, rfl, _, rfl, _, _, rfl, rfl, decide (p'.now < t), rfl, ?_⟩
    by_cases hlt : p'.now < t
    · rw [decide_eq_true hlt]
      refine iteT ⟨fun σ' H' => ∃ y2 y3 y4 K'' p'', σ' = [some (.ref A.x), some (.int t), y2, y3, y4] ∧ p'.now < p''.now ∧ Same K0 K'' ∧ LOwn K A S K'' H' p'' M ∧ Pos1 p''.stk ∧ p''.stk.length ≤ 3000 ∧ lgo (rkN S) p'' t = lgo (rkN S) p t, ?_, ?_⟩
      · rintro σ' H' ⟨y2, y3, y4, K'', p'', rfl, h1, h2, h3, h4, h5, h6⟩
        exact ⟨_, by omega, _, _, _, K'', p'', rfl, rfl, h2, h3, h4, h5, h6⟩
      rcases List.eq_nil_or_concat p'.stk with e1 | ⟨rest, y, e1⟩
      · have hp0 := hp
        rw [e1] at hp0
        cases hp0
        refine ⟨_, rfl, _, _, _, _, _, rfl, hx, T.cl_LogPlay, T.t_LogPlay_stack, rfl, false, .inl ⟨_, l_of sp.c1, rfl⟩, iteT ?_⟩
        refine ⟨_, rfl, A.x, A.dx, _, rfl, hx, rfl, _, rfl, _, rfl, _, _, _, _, _, rfl, hx, T.cl_LogPlay, T.t_LogPlay_now, rfl, _, _, rfl, rfl, A, S, K', p', M, 0, t - p'.now, rfl, ow, fun H2 ow2 => ?_⟩
        refine q K' H2 g ?_
        rw [← heq]
        obtain ⟨n, hn⟩ : ∃ n : Nat, (t - p'.now).toNat = n + 1 := ⟨(t - p'.now).toNat - 1, by omega⟩
        unfold lgo
        rw [hn, adv_nil (rkN S) e1, show ((n + 1 : Nat) : Int) = t - p'.now by omega]
        exact ow2
      · rw [List.concat_eq_append] at e1
        have hp0 := hp
        rw [e1] at hp0
        obtain ⟨sv', v, rfl, h4, tt, rfl, ht⟩ := psnoc hp0
        obtain ⟨yr, yl⟩ := y
        refine ⟨_, rfl, _, _, _, _, _, rfl, hx, T.cl_LogPlay, T.t_LogPlay_stack, rfl, true, .inl ⟨_, l_of sp.c1, by simp⟩, iteF ?_⟩
        have hc1 := sp.c1
        have hlast : (sv' ++ [V.ref tt])[(sv' ++ [V.ref tt]).length - 1]? = some (V.ref tt) := by simp
        refine ⟨_, rfl, _, _, _, _, _, rfl, hx, T.cl_LogPlay, T.t_LogPlay_stack, rfl, .inl ⟨rfl, _, .inl (.inl hc1)⟩, _, _, _, rfl, rfl, hc1, hlast, ?_⟩
        rw [List.dropLast_concat]
        have sp1 := sp.put1 (y := .lst sv')
        have hx1 := sp1.c0
        refine ⟨_, _, rfl, Same.tup sp1.ext ht, rfl, _, _, rfl, _, _, rfl, rfl, ?_⟩
        have hyl : 1 ≤ yl := hpos (yr, yl) (by rw [e1]; simp)
        refine ⟨_, rfl, _, rfl, _, rfl, _, _, _, _, _, rfl, hx1, T.cl_LogPlay, T.t_LogPlay_now, rfl, _, _, rfl, rfl, yl, t - p'.now, rfl, ?_⟩
        generalize hk : (if t - p'.now < yl then t - p'.now else yl) = k
        have hk1 : 1 ≤ k ∧ k ≤ yl ∧ k ≤ t - p'.now := by
          rw [← hk]
          split <;> omega
        obtain ⟨n, hn⟩ : ∃ n : Nat, k = ((n + 1 : Nat) : Int) := ⟨k.toNat - 1, by omega⟩
        have hadv := adv_top (rkN S) e1 n (by omega)
        rw [← hn] at hadv
        have hgo : ∀ p2 : LP, p2 = adv (rkN S) (n + 1) p' → p'.now < p2.now ∧ Pos1 p2.stk ∧ p2.stk.length ≤ 3000 ∧ lgo (rkN S) p2 t = lgo (rkN S) p t := fun p2 h2 => by
          have hnw : p2.now = p'.now + k := by rw [h2, adv_now, hn]
          have ap := adv_pos (rkN S) (n + 1) hpos
          rw [← h2] at ap
          refine ⟨by omega, ap.1, by omega, ?_⟩
          rw [← heq]
          unfold lgo
          rw [show (t - p'.now).toNat = (n + 1) + (t - p2.now).toNat by omega, adv_add, ← h2]
        refine ⟨_, rfl, _, rfl, _, _, rfl, rfl, decide (k < yl), rfl, ?_⟩
        have hsl : sv'.length ≤ 3000 := by
          have := h4.length
          have : rest.length + 1 = p'.stk.length := by rw [e1]; simp
          omega
        by_cases hc : k < yl
        · rw [decide_eq_true hc]
          refine iteT ⟨_, rfl, _, _, _, _, _, rfl, hx1, T.cl_LogPlay, T.t_LogPlay_stack, rfl, .inl ⟨rfl, _, .inl (.inl sp1.c1)⟩, _, rfl, _, rfl, _, rfl, _, _, rfl, rfl, small8 (by simp), fun t2 ht2 => ?_⟩
          have sp2 := sp1.keep (o := .tup [.int yr, .int (yl - k)]) ht2
          have g2 := sp1.newk (o := .tup [.int yr, .int (yl - k)]) ht2
          refine ⟨_, _, _, rfl, rfl, sp2.c1, sm (m := 3500) (by omega) (by decide), ?_⟩
          have sp3 := sp2.put1 (y := .lst (sv' ++ [.ref t2]))
          have ow3 : LOwn K A S (upd K' t2 (.tup [.int yr, .int (yl - k)])) _ { p' with stk := rest ++ [(yr, yl - k)] } M := ⟨g2 _ _ ow.rkd, g2 _ _ ow.csd, ow.ok, _, Paired.snoc (h4.mono fun _ _ z => PrAt.up g2 z) ⟨t2, rfl, t_of upd_same⟩, sp3⟩
          refine ⟨_, rfl, A.x, A.dx, _, rfl, sp3.c0, rfl, _, rfl, _, rfl, A, S, _, _, M, yr, k, rfl, ow3, fun H3 ow4 => ?_⟩
          rw [if_pos hc] at hadv
          have hg := hgo _ hadv.symm
          exact ⟨_, _, _, _, _, rfl, hg.1, Same.tr g g2, ow4, hg.2.1, hg.2.2.1, hg.2.2.2⟩
        · rw [decide_eq_false hc]
          refine iteF ?_
          have ow3 : LOwn K A S K' _ { p' with stk := rest } M := ⟨ow.rkd, ow.csd, ow.ok, sv', h4, sp1⟩
          refine ⟨_, rfl, A.x, A.dx, _, rfl, sp1.c0, rfl, _, rfl, _, rfl, A, S, _, _, M, yr, k, rfl, ow3, fun H3 ow4 => ?_⟩
          rw [if_neg hc] at hadv
          have hg := hgo _ hadv.symm
          exact ⟨_, _, _, _, _, rfl, hg.1, g, ow4, hg.2.1, hg.2.2.1, hg.2.2.2⟩
    · rw [decide_eq_false hlt]
      refine iteF ?_
      refine q K' H1 g ?_
      rw [← heq]
      unfold lgo
      rw [show (t - p'.now).toNat = 0 by omega]
      exact ow
abbrev N_LogPlay_init : List Str := ["self", "setup", "line"]
theorem sc_LogPlay_init : FnScope N_LogPlay_init ["self", "setup"] (C8.fnScope s_LogPlay_init) := C8.fnScope_by (by decide +kernel)
theorem ok_LogPlay_init {fd : FuncData} (T : Txt K mg) (F : FunD K "__init__" "LogPlay.__init__" (C8.fnArgs s_LogPlay_init) (C8.fnBody s_LogPlay_init) (C8.fnScope s_LogPlay_init) [] [] (He.ma K (aC "LogPlay" K) "__init__") fd) (c_lines : FnP P w K mg base 1 (prA "Setup" "lines" K) (sp_Setup_lines K)) (c_ticks_of : C8.Met P w K mg base 4 (aC "Setup" K) "ticks_of" (sp_Setup_ticks_of K) []) :
    C8.Mak P w K mg base 5 "LogPlay" (aC "LogPlay" K) (sp_LogPlay_init K) [] := by
  refine C8.mak0 (ds := []) T.mk_LogPlay T.g_LogPlay (fun_c8 F) (F.bindsN fun _ _ _ _ _ _ us hl => match us, hl with | [_, _], _ => rfl) .nil sc_LogPlay_init (fun vs H Q E h => ?_) (fun cdv A outer s H vs Q E hr h => ?_)
  · obtain ⟨_, _, _, _, _, _, rfl, _⟩ := h
    rfl
  · have nd := sc_LogPlay_init.nd
    have hu := hu_of hr
    obtain ⟨x, dx, su, S, K0, M, rfl, sp, hS, ok, q⟩ := h
    obtain ⟨pl, hpl⟩ := T.p_Setup_lines
    refine ⟨_, (pss_cons (ps_fld (pv 0) (pe_dc (own := [("line", 2)]) rfl nd (pi_tup (C_prop hpl T.cl_Setup c_lines hr (by decide) (pv 1))) (blkOk_by (own := [("line", 2)]) (N := N_LogPlay_init) (sc := (C8.fnScope s_LogPlay_init)) (by decide +kernel)) (fun _ _ _ _ _ => (pg_name (i := 2) nd rfl (Or.inl rfl))) (fun _ _ _ _ _ => pts_nil) (fun _ _ _ _ _ => (pe_ix (ix_tup : IxR _ (rIxT K)) (pv 2) pe_int (fun _ _ => rfl))) (fun _ _ _ _ _ => (pe_ix (ix_tup : IxR _ (rIxT K)) (pv 2) pe_int (fun _ _ => rfl)))) rfl)
      (pss_cons (ps_fld (pv 0) (pe_dc (own := [("line", 2)]) rfl nd (pi_tup (C_prop hpl T.cl_Setup c_lines hr (by decide) (pv 1))) (blkOk_by (own := [("line", 2)]) (N := N_LogPlay_init) (sc := (C8.fnScope s_LogPlay_init)) (by decide +kernel)) (fun _ _ _ _ _ => (pg_name (i := 2) nd rfl (Or.inl rfl))) (fun _ _ _ _ _ => pts_nil) (fun _ _ _ _ _ => (pe_ix (ix_tup : IxR _ (rIxT K)) (pv 2) pe_int (fun _ _ => rfl))) (fun _ _ _ _ _ => (C8.pe_mt c_ticks_of hr (by decide) (pv 1) (pa_cons (pe_ix (ix_tup : IxR _ (rIxT K)) (pv 2) pe_int (fun _ _ => rfl)) pa_nil)))) rfl)
      (pss_cons (ps_fld (pv 0) pe_int rfl)
      (pss_cons (ps_fld (pv 0) pe_int rfl)
      (pss_cons (ps_fld (pv 0) (pe_lst pa_nil) rfl)
      (pss_one (ps_fld (pv 0) (pe_dc (own := [("line", 2)]) rfl nd (pi_tup (C_prop hpl T.cl_Setup c_lines hr (by decide) (pv 1))) (blkOk_by (own := [("line", 2)]) (N := N_LogPlay_init) (sc := (C8.fnScope s_LogPlay_init)) (by decide +kernel)) (fun _ _ _ _ _ => (pg_name (i := 2) nd rfl (Or.inl rfl))) (fun _ _ _ _ _ => pts_nil) (fun _ _ _ _ _ => (pe_ix (ix_tup : IxR _ (rIxT K)) (pv 2) pe_int (fun _ _ => rfl))) (fun _ _ _ _ _ => (pe_un un_neg pe_int))) rfl))))))), ?_⟩
    obtain ⟨dx2, la, wa, bn, oa, xs0, h1, h2, h3, h4, h5, h6⟩ := id hS
    have hn := nm_len ok
    refine ⟨_, rfl, su, dx2, _, rfl, sp.ext _ _ h1, su, S, K0, rfl, hS, sp.ext, fun la1 hla1 => ?_⟩
    obtain ⟨xs, hxs, hp⟩ := hla1.ex
    have hpl := hp.length
    have ndn : (nms' S).Nodup := ok.ok.nd
    have nmg : ∀ (i : Nat) (l : LineD), S.ls[i]? = some l → (nms' S)[i]? = some l.name := fun i l e => by
      unfold nms'
      rw [List.getElem?_map, e]
      rfl
    have xsl : xs.length = (nms' S).length := by unfold nms'; rw [List.length_map]; exact hpl
    have hmap : ∀ (i : Nat) (f : Str → Int), (md ((nms' S).take i) f).length ≤ 12 := fun i f => by
      unfold md
      rw [List.length_map, List.length_take]
      omega
    refine ⟨_, rfl, ⟨_, Same.tup sp.ext hxs⟩, fun Rk hRk => ?_⟩
    refine dc_it (walk_tup (xs := xs)) (fun i H' => Sep K0 H' ((Rk, .dK (md ((nms' S).take i) (rkN S))) :: (x, .ins (aC "LogPlay" K) dx []) :: M)) (sp.own hRk) ?_ ?_ ?_
    · rintro i H' _ sp
      exact Same.tup sp.ext hxs
    · rintro i v H1 H2 hi sp ⟨rfl, e2⟩
      obtain ⟨l, hl, a, h, hs, rfl, ha, hh, hst⟩ := pget hp e2
      refine ⟨rfl, _, rfl, _, _, _, _, rfl, rfl, Same.tup sp.ext ha, rfl, _, rfl, _, _, _, _, rfl, rfl, Same.tup sp.ext ha, rfl, _, .inr l.name, rfl, sp.c0, sm (hmap i _) (by decide), ?_⟩
      have z := sp.put0 (o' := .dK (putK (md ((nms' S).take i) (rkN S)) (.inr l.name) (.int (rkN S l.name))))
      rw [md_snoc ndn (nmg i l hl)] at z
      rw [← rkN_eq ok (List.mem_of_getElem? hl), md_snoc ndn (nmg i l hl)]
      exact z
    rintro H1 a1
    rw [List.take_of_length_le (by omega)] at a1
    refine ⟨_, rfl, _, _, _, _, rfl, a1.c1, T.cl_LogPlay, T.t_LogPlay_ranks, (by simp), ?_⟩
    have t1 := a1.swap.put0 (o' := .ins (aC "LogPlay" K) dx [("_ranks", .ref Rk)])
    refine ⟨_, rfl, su, dx2, _, rfl, t1.ext _ _ h1, su, S, K0, rfl, hS, t1.ext, fun la2 hla2 => ?_⟩
    obtain ⟨xs2, hxs2, hp2⟩ := hla2.ex
    have hpl2 := hp2.length
    have xsl2 : xs2.length = (nms' S).length := by unfold nms'; rw [List.length_map]; exact hpl2
    refine ⟨_, rfl, ⟨_, Same.tup t1.ext hxs2⟩, fun Cs hCs => ?_⟩
    refine dc_it (walk_tup (xs := xs2)) (fun i H' => Sep K0 H' ((Cs, .dK (md ((nms' S).take i) (csN S))) :: (x, .ins (aC "LogPlay" K) dx [("_ranks", .ref Rk)]) :: (Rk, .dK (md (nms' S) (rkN S))) :: M)) (t1.own hCs) ?_ ?_ ?_
    · rintro i H' _ sp
      exact Same.tup sp.ext hxs2
    · rintro i v H2 H3 hi sp ⟨rfl, e2⟩
      obtain ⟨l, hl, a, h, hs, rfl, ha, hh, hst⟩ := pget hp2 e2
      have hlS := List.mem_of_getElem? hl
      refine ⟨rfl, _, rfl, _, _, _, _, rfl, rfl, Same.tup sp.ext ha, rfl, _, rfl, su, dx2, _, rfl, sp.ext _ _ h1, rfl, _, rfl, _, _, _, _, rfl, rfl, Same.tup sp.ext ha, rfl, su, S, l, rfl, SetupAt.up sp.ext hS, ok, hlS, fun H4 g4 => ?_⟩
      have sp4 := sp.grow g4
      refine ⟨_, .inr l.name, rfl, sp4.c0, sm (hmap i _) (by decide), ?_⟩
      have z := sp4.put0 (o' := .dK (putK (md ((nms' S).take i) (csN S)) (.inr l.name) (.int (csN S l.name))))
      rw [md_snoc ndn (nmg i l hl)] at z
      rw [← csN_eq ok hlS, md_snoc ndn (nmg i l hl)]
      exact z
    rintro H2 a2
    rw [List.take_of_length_le (by omega)] at a2
    refine ⟨_, rfl, _, _, _, _, rfl, a2.c1, T.cl_LogPlay, T.t_LogPlay_costs, (by simp), ?_⟩
    have t2 := a2.swap.put0 (o' := .ins (aC "LogPlay" K) dx [("_ranks", .ref Rk), ("_costs", .ref Cs)])
    refine ⟨_, rfl, _, _, _, _, rfl, t2.c0, T.cl_LogPlay, T.t_LogPlay_now, (by simp), ?_⟩
    have t3 := t2.put0 (o' := .ins (aC "LogPlay" K) dx [("_ranks", .ref Rk), ("_costs", .ref Cs), ("_now", .int 0)])
    refine ⟨_, rfl, _, _, _, _, rfl, t3.c0, T.cl_LogPlay, T.t_LogPlay_least, (by simp), ?_⟩
    have t4 := t3.put0 (o' := .ins (aC "LogPlay" K) dx [("_ranks", .ref Rk), ("_costs", .ref Cs), ("_now", .int 0), ("_least", .int 0)])
    refine ⟨Nat.zero_le _, fun st hst => ?_⟩
    have t4b := (t4.own (o := .lst []) hst).swap
    refine ⟨_, rfl, _, _, _, _, rfl, t4b.c0, T.cl_LogPlay, T.t_LogPlay_stack, (by simp), ?_⟩
    have t5 := t4b.put0 (o' := .ins (aC "LogPlay" K) dx [("_ranks", .ref Rk), ("_costs", .ref Cs), ("_now", .int 0), ("_least", .int 0), ("_stack", .ref st)])
    refine ⟨_, rfl, su, dx2, _, rfl, t5.ext _ _ h1, su, S, K0, rfl, hS, t5.ext, fun la3 hla3 => ?_⟩
    obtain ⟨xs3, hxs3, hp3⟩ := hla3.ex
    have hpl3 := hp3.length
    have xsl3 : xs3.length = (nms' S).length := by unfold nms'; rw [List.length_map]; exact hpl3
    refine ⟨_, rfl, ⟨_, Same.tup t5.ext hxs3⟩, fun Op hOp => ?_⟩
    refine dc_it (walk_tup (xs := xs3)) (fun i H' => Sep K0 H' ((Op, .dK (md ((nms' S).take i) fun _ => -1)) :: (x, .ins (aC "LogPlay" K) dx [("_ranks", .ref Rk), ("_costs", .ref Cs), ("_now", .int 0), ("_least", .int 0), ("_stack", .ref st)]) :: (st, .lst []) :: (Cs, .dK (md (nms' S) (csN S))) :: (Rk, .dK (md (nms' S) (rkN S))) :: M)) (t5.own hOp) ?_ ?_ ?_
    · rintro i H' _ sp
      exact Same.tup sp.ext hxs3
    · rintro i v H3 H4 hi sp ⟨rfl, e2⟩
      obtain ⟨l, hl, a, h, hs, rfl, ha, hh, hst⟩ := pget hp3 e2
      refine ⟨rfl, _, rfl, _, _, _, _, rfl, rfl, Same.tup sp.ext ha, rfl, ?_⟩
      have z := sp.put0 (o' := .dK (putK (md ((nms' S).take i) fun _ => -1) (.inr l.name) (.int ((fun _ => -1 : Str → Int) l.name))))
      rw [md_snoc ndn (nmg i l hl)] at z
      refine ⟨_, rfl, _, .inr l.name, rfl, sp.c0, sm (hmap i _) (by decide), ?_⟩
      show Sep K0 (upd H4 Op (HO.dK (putK (md ((nms' S).take i) fun _ => -1) (.inr l.name) (.int ((fun _ => -1 : Str → Int) l.name))))) _
      rw [md_snoc ndn (nmg i l hl)]
      exact z
    rintro H3 a6
    rw [List.take_of_length_le (by omega)] at a6
    refine ⟨_, rfl, _, _, _, _, rfl, a6.c1, T.cl_LogPlay, T.t_LogPlay_open, (by simp), ?_⟩
    have t6 := a6.swap.put0 (o' := lpI K ⟨x, dx, Rk, Cs, st, Op⟩ 0 0)
    have u1 := t6.up4.freeze
    have n1 := t6.up4.new0
    have u2 := (u1.perm (List.perm_middle (l₁ := [_, _, _])).symm).freeze
    have n2 := (u1.perm (List.perm_middle (l₁ := [_, _, _])).symm).new0
    have u3 := u2.perm ((List.Perm.swap _ _ _).cons _)
    exact q _ _ ⟨x, dx, Rk, Cs, st, Op⟩ (Same.tr n1 n2) rfl ⟨n2 _ _ upd_same, upd_same, ok, [], .nil, u3⟩
end
end Cb

namespace Cb
open PySem PySem.Spec PyProof.Rows L2

def ItAt (K : PySem.W.Frag) (H : Hp) (v : V) (x : Int × LineD) : Prop := ∃ t, v = .ref t ∧ SqT K H t [.int x.1, .str x.2.name]
theorem ItAt.up {K : PySem.W.Frag} {H H' : Hp} {v : V} {r : Int × LineD} (e : Same H H') (h : ItAt K H v r) : ItAt K H' v r := h.elim fun a h => ⟨a, h.1, Same.tup e h.2⟩
theorem ticks_pos {S : SetD} (ok : SetOk S) (pl : PlainS S) {l : LineD} (h : l ∈ S.ls) : 1 ≤ l.ticks := by
  have z := befS_le (pl l h) l.steps.length 0 (by omega)
  have s1 := (ok.ok.ok l h).s1
  have e : befS l 0 = 0 := by simp [befS]
  omega
structure LogOk (K : PySem.W.Frag) (H : Hp) (S : SetD) (a : Addr) (xs : List V) (items : List (Int × LineD)) : Prop where
  at_ : SqL K H a xs
  it : Paired (ItAt K H) xs items
  le : items.length ≤ 1000
  gl : GL (rkN S) S lp0 items
def sp_played_ranges (K : PySem.W.Frag) : Sp := fun vs H Q _ => ∃ (su a : Addr) (S : SetD) (xs : List V) (items : List (Int × LineD)) (K0 : Hp) (M : List (Addr × HO)), vs = [.ref su, .ref a] ∧ SetupAt K K0 su S ∧ SetOk S ∧ PlainS S ∧ LogOk K K0 S a xs items ∧ Sep K0 H M ∧
  ∀ K1 H' p rv, Same K0 K1 → Sep K1 H' M → K1 p = some (.lst rv) → Paired (PrAt K K1) rv (plays (rkN S) lp0 items) → Q (.ref p) H'
def sp_first_impossible (K : PySem.W.Frag) : Sp := fun vs H Q _ => ∃ (su a : Addr) (S : SetD) (xs : List V) (items : List (Int × LineD)), vs = [.ref su, .ref a] ∧ SetupAt K H su S ∧ SetOk S ∧ PlainS S ∧ Plain2 S ∧ LogOk K H S a xs items ∧
  ∀ H', Same H H' → Q .non H'
def sp_ring_ranges (K : PySem.W.Frag) : Sp := fun vs H Q _ => ∃ (su a : Addr) (S : SetD) (xs : List V) (items : List (Int × LineD)) (K0 : Hp) (M : List (Addr × HO)), vs = [.ref su, .ref a] ∧ SetupAt K K0 su S ∧ SetOk S ∧ PlainS S ∧ Plain2 S ∧ LogOk K K0 S a xs items ∧ Sep K0 H M ∧
  ∀ K1 H' p rv, Same K0 K1 → Sep K1 H' M → K1 p = some (.lst rv) → Paired (PrAt K K1) rv (plays (rkN S) lp0 items) → Q (.ref p) H'
theorem LogOk.up {K : PySem.W.Frag} {H H' : Hp} {S : SetD} {a : Addr} {xs : List V} {items : List (Int × LineD)} (g : Same H H') (h : LogOk K H S a xs items) : LogOk K H' S a xs items := ⟨Same.lst g h.at_, h.it.mono fun _ _ z => ItAt.up g z, h.le, h.gl⟩
section
variable {K : PySem.W.Frag} {A : LA} {S : SetD} {K0 H : Hp} {p : LP} {M : List (Addr × HO)}
theorem LOwn.same (h : LOwn K A S K0 H p M) : Same K0 H := by
  obtain ⟨sv, hp, sp⟩ := h.ex
  exact sp.ext
theorem LOwn.fr {a : Addr} {o : HO} (h : LOwn K A S K0 H p ((a, o) :: M)) : H a = some o := by
  obtain ⟨sv, hp, sp⟩ := h.ex
  exact sp.c3
theorem LOwn.px (h : LOwn K A S K0 H p M) : H A.x = some (lpI K A p.now p.least) := by
  obtain ⟨sv, hp, sp⟩ := h.ex
  exact sp.c0
theorem LOwn.own {a : Addr} {o : HO} (h : LOwn K A S K0 H p M) (e : H a = none) : LOwn K A S K0 (upd H a o) p ((a, o) :: M) := by
  obtain ⟨sv, hp, sp⟩ := h.ex
  exact ⟨h.rkd, h.csd, h.ok, sv, hp, (sp.own e).perm (List.perm_middle (l₁ := [_, _, _]))⟩
theorem LOwn.putM {a : Addr} {o o' : HO} (h : LOwn K A S K0 H p ((a, o) :: M)) : LOwn K A S K0 (upd H a o') p ((a, o') :: M) := by
  obtain ⟨sv, hp, sp⟩ := h.ex
  exact ⟨h.rkd, h.csd, h.ok, sv, hp, sp.put3⟩
theorem LOwn.keep {a : Addr} {o : HO} (h : LOwn K A S K0 H p M) (e : H a = none) : LOwn K A S (upd K0 a o) (upd H a o) p M ∧ Same K0 (upd K0 a o) := by
  obtain ⟨sv, hp, sp⟩ := h.ex
  have g := sp.newk (o := o) e
  exact ⟨⟨g _ _ h.rkd, g _ _ h.csd, h.ok, sv, hp.mono fun _ _ z => PrAt.up g z, sp.keep e⟩, g⟩
end

section
variable {P : Program} {w : World} {K : PySem.W.Frag} {mg : Str → Option Value} {base : Heap}

abbrev N_played_ranges : List Str := ["setup", "log", "play", "ranges", "item", "tick", "line"]
theorem sc_played_ranges : FnScope N_played_ranges ["setup", "log"] (C8.fnScope s_played_ranges) := C8.fnScope_by (by decide +kernel)
theorem ok_played_ranges {fd : FuncData} (T : Txt K mg) (F : FunD K "played_ranges" "played_ranges" (C8.fnArgs s_played_ranges) (C8.fnBody s_played_ranges) (C8.fnScope s_played_ranges) [] [] (He.ga K "played_ranges") fd) (c_LogPlay : C8.Mak P w K mg base 5 "LogPlay" (aC "LogPlay" K) (sp_LogPlay_init K) []) (c_is_formed : C8.Met P w K mg base 2 (aC "LogPlay" K) "is_formed" (sp_LogPlay_is_formed K) []) (c_go_on_until : C8.Met P w K mg base 2 (aC "LogPlay" K) "go_on_until" (sp_LogPlay_go_on_until K) []) (c_lets_by : C8.Met P w K mg base 1 (aC "LogPlay" K) "lets_by" (sp_LogPlay_lets_by K) []) (c_earliest_ring : C8.Met P w K mg base 1 (aC "LogPlay" K) "earliest_ring" (sp_LogPlay_earliest_ring K) []) (c_begin : C8.Met P w K mg base 1 (aC "LogPlay" K) "begin" (sp_LogPlay_begin K) []) :
    C8.Cal P w K mg base 7 "played_ranges" (sp_played_ranges K) [] := by
  refine C8.cal0 (ds := []) ⟨fun_c8 F, T.f_played_ranges, F.kp⟩ (F.bindsN fun _ _ _ _ _ _ us hl => match us, hl with | [_, _], _ => rfl) .nil sc_played_ranges (fun vs H Q E h => ?_) (fun cdv A outer s H vs Q E hr h => ?_)
  · obtain ⟨_, _, _, _, _, _, _, rfl, _⟩ := h
    rfl
  · have nd := sc_played_ranges.nd
    have hu := hu_of hr
    obtain ⟨su, a, S, xs, items, K0, M, rfl, hS, ok, pl, hL, sp0, q⟩ := h
    refine ⟨_, (pss_cons (ps_set (i := 2) nd rfl (Or.inl rfl) (C8.pe_mk c_LogPlay hr (by decide) rfl (pa_cons (pv 0) pa_nil)))
      (pss_cons (ps_set (i := 3) nd rfl (Or.inl rfl) (pe_lst pa_nil))
      (pss_cons (ps_for PassesOwn.never rfl (pi_list (pv 1)) (pg_name (i := 4) nd rfl (Or.inl rfl)) (pss_cons (ps_if (pt_not (pt_val (C8.pe_mt c_is_formed hr (by decide) (pv 2) (pa_cons (pv 4) pa_nil)))) (pss_one (ps_ret (pv 3))) pss_nil)
      (pss_cons (ps_asg (pv 4) (pg_tup rfl (pgs_cons (pg_name (i := 5) nd rfl (Or.inl rfl)) (pgs_cons (pg_name (i := 6) nd rfl (Or.inl rfl)) pgs_nil))))
      (pss_cons (ps_expr (C8.pe_mt c_go_on_until hr (by decide) (pv 2) (pa_cons (pv 5) pa_nil)))
      (pss_cons (ps_if (pt_not (pt_val (C8.pe_mt c_lets_by hr (by decide) (pv 2) (pa_cons (pv 6) pa_nil)))) (pss_one (ps_ret (pv 3))) pss_nil)
      (pss_cons (ps_expr (pe_bm PySem.F.plainAttrs_list PySem.F.slot_list_append PySem.F.type_list_append mt_append (pv 3) (pa_cons (pe_tup (pa_cons (C8.pe_mt c_earliest_ring hr (by decide) (pv 2) (pa_cons (pv 6) pa_nil)) (pa_cons (pv 5) pa_nil))) pa_nil)))
      (pss_one (ps_expr (C8.pe_mt c_begin hr (by decide) (pv 2) (pa_cons (pv 6) pa_nil))))))))))
      (pss_one (ps_ret (pv 3)))))), ?_⟩
    have hle := hL.le
    have hil := hL.it.length
    refine ⟨_, rfl, fun x dx hx hdx hne => ?_⟩
    have so := sp0.obj (o := .own x) (o' := .ins (aC "LogPlay" K) dx []) hx hdx hne
    refine ⟨x, dx, su, S, K0, _, rfl, so, hS, ok, fun K1 H1 A g1 eA ow => ⟨rfl, ?_⟩⟩
    subst eA
    refine ⟨Nat.zero_le _, fun rg hrg => ?_⟩
    have ow1 := ow.own (o := .lst []) hrg
    refine ⟨_, rfl, _, rfl, ⟨_, Same.lst (Same.tr g1 ow1.same) hL.at_⟩, ?_⟩
    refine for_it (walk_list (xs := xs)) (fun i σ H' => ∃ y4 y5 y6 K' rv, σ = [some (.ref su), some (.ref a), some (.ref A.x), some (.ref rg), y4, y5, y6] ∧ Same K0 K' ∧ LOwn K A S K' H' (lend (rkN S) lp0 (items.take i)) ((rg, .lst rv) :: M) ∧ Paired (PrAt K K') rv (plays (rkN S) lp0 (items.take i)) ∧ Pos1 (lend (rkN S) lp0 (items.take i)).stk ∧ (lend (rkN S) lp0 (items.take i)).stk.length ≤ i) ⟨_, _, _, K1, [], rfl, g1, ow1, .nil, (fun _ m => by cases m), Nat.le_refl _⟩ ?_ ?_ ?_
    · rintro i σ H' _ ⟨y4, y5, y6, K', rv, _, g, ow, _⟩
      exact Same.lst (Same.tr g ow.same) hL.at_
    · rintro i v σ H2 H3 hi ⟨y4, y5, y6, K', rv, rfl, g, ow, pr, ps, len⟩ ⟨rfl, e2⟩
      obtain ⟨it, hit, t, rfl, ht⟩ := pget hL.it e2
      have io := GL_at (rkN S) items lp0 i it hL.gl hit
      have prl := pr.length
      rw [plays_len] at prl
      have htk : (items.take i).length ≤ i := List.length_take_le _ _
      have ht' := Same.tup g ht
      refine ⟨_, rfl, A.x, A.dx, _, rfl, ow.px, rfl, _, rfl, A, S, K', _, _, t, it, rfl, ow, ht', io.ln, io.lo, io.hi, true, rfl, iteF ?_⟩
      refine ⟨_, rfl, _, _, rfl, Same.tup ow.same ht', rfl, _, _, rfl, _, _, rfl, rfl, ?_⟩
      refine ⟨_, rfl, A.x, A.dx, _, rfl, ow.px, rfl, _, rfl, A, S, K', _, _, it.1, rfl, ow, ps, by omega, fun K2 H4 g2 ow2 => ?_⟩
      refine ⟨_, rfl, A.x, A.dx, _, rfl, ow2.px, rfl, _, rfl, A, S, K2, _, _, it.2, rfl, ow2, io.ln, true, congrArg V.bl io.lt, iteF ?_⟩
      refine ⟨_, rfl, .inl ⟨rfl, _, .inl (.inl ow2.fr)⟩, _, rfl, A.x, A.dx, _, rfl, ow2.px, rfl, _, rfl, A, S, K2, _, _, it.2, rfl, ow2, io.ln, _, rfl, small8 (by simp), fun t2 ht2 => ?_⟩
      have k3 := ow2.keep (o := .tup [.int ((lgo (rkN S) (lend (rkN S) lp0 (items.take i)) it.1).opn it.2.name + 1), .int it.1]) ht2
      refine ⟨_, _, _, rfl, rfl, k3.1.fr, sm (m := 1100) (by omega) (by decide), ?_⟩
      have ow4 := k3.1.putM (o' := .lst (rv ++ [.ref t2]))
      have ap := adv_pos (rkN S) (it.1 - (lend (rkN S) lp0 (items.take i)).now).toNat ps
      refine ⟨_, rfl, A.x, A.dx, _, rfl, ow4.px, rfl, _, rfl, A, S, _, _, _, it.2, rfl, ow4, io.ln, ?_, fun K3 H5 g5 ow5 => ?_⟩
      · have := ap.2
        show (lgo (rkN S) (lend (rkN S) lp0 (items.take i)) it.1).stk.length ≤ 3000
        unfold lgo
        omega
      have gA := Same.tr g2 (Same.tr k3.2 g5)
      have hend : lend (rkN S) lp0 (items.take (i + 1)) = lbeg (lgo (rkN S) (lend (rkN S) lp0 (items.take i)) it.1) it.2 := by
        rw [take_snoc hit, lend_app]
        rfl
      refine ⟨_, _, _, K3, _, rfl, Same.tr g gA, hend ▸ ow5, ?_, ?_, ?_⟩
      · rw [take_snoc hit, plays_app]
        exact Paired.snoc (pr.mono fun _ _ z => PrAt.up gA z) ⟨t2, rfl, t_of (g5 _ _ upd_same)⟩
      · rw [hend]
        intro e m
        rcases List.mem_append.mp m with m | m
        · exact ap.1 e m
        · obtain rfl := List.mem_singleton.mp m
          exact ticks_pos ok pl io.ln
      · rw [hend]
        show ((lgo (rkN S) (lend (rkN S) lp0 (items.take i)) it.1).stk ++ [_]).length ≤ _
        have := ap.2
        unfold lgo
        simp
        omega
    · rintro σ H2 ⟨y4, y5, y6, K', rv, rfl, g, ow, pr, _⟩
      rw [List.take_of_length_le (by omega)] at pr
      obtain ⟨sv, hp, sp⟩ := ow.ex
      have fz := sp.tail.tail.tail
      have gz := fz.new0
      exact ⟨_, rfl, q _ _ rg rv (Same.tr g gz) fz.freeze upd_same (pr.mono fun _ _ z => PrAt.up gz z)⟩
abbrev N_first_impossible : List Str := ["setup", "log", "at"]
theorem sc_first_impossible : FnScope N_first_impossible ["setup", "log"] (C8.fnScope s_first_impossible) := C8.fnScope_by (by decide +kernel)
theorem ok_first_impossible {fd : FuncData} (T : Txt K mg) (F : FunD K "first_impossible" "first_impossible" (C8.fnArgs s_first_impossible) (C8.fnBody s_first_impossible) (C8.fnScope s_first_impossible) [] [] (He.ga K "first_impossible") fd) (c_check_plain : C8.Cal P w K mg base 3 "check_plain" (sp_check_plain K) []) (c_played_ranges : C8.Cal P w K mg base 7 "played_ranges" (sp_played_ranges K) []) :
    C8.Cal P w K mg base 8 "first_impossible" (sp_first_impossible K) [] := by
  refine C8.cal0 (ds := []) ⟨fun_c8 F, T.f_first_impossible, F.kp⟩ (F.bindsN fun _ _ _ _ _ _ us hl => match us, hl with | [_, _], _ => rfl) .nil sc_first_impossible (fun vs H Q E h => ?_) (fun cdv A outer s H vs Q E hr h => ?_)
  · obtain ⟨_, _, _, _, _, rfl, _⟩ := h
    rfl
  · have nd := sc_first_impossible.nd
    have hu := hu_of hr
    obtain ⟨su, a, S, xs, items, rfl, hS, ok, pl, pl2, hL, q⟩ := h
    refine ⟨_, (pss_cons (ps_expr (C8.pe_c c_check_plain hr (by decide) rfl (pa_cons (pv 0) pa_nil)))
      (pss_cons (ps_set (i := 2) nd rfl (Or.inl rfl) (pe_callB call_len_seq (by rfl) T.n_len (by decide +kernel) (pa_cons (C8.pe_c c_played_ranges hr (by decide) rfl (pa_cons (pv 0) (pa_cons (pv 1) pa_nil))) pa_nil)))
      (pss_one (ps_ret (pe_ifExp (pt_cmpR op_lt (pv 2) (pe_callB call_len_seq (by rfl) T.n_len (by decide +kernel) (pa_cons (pv 1) pa_nil)) (nomark _)) (pv 2) pe_non))))), ?_⟩
    have hil := hL.it.length
    refine ⟨_, rfl, su, S, rfl, hS, ok, pl2, fun H1 g1 => ?_⟩
    refine ⟨_, rfl, _, rfl, su, a, S, xs, items, H1, [], rfl, SetupAt.up g1 hS, ok, pl, hL.up g1, Sep.nil, fun K1 H2 p rv g12 s2 hp1 pr => ?_⟩
    have g2 := Same.tr g12 s2.ext
    have prl := pr.length
    rw [plays_len] at prl
    refine ⟨_, _, rfl, .inl (l_of (s2.ext _ _ hp1)), ?_⟩
    refine ⟨_, rfl, _, rfl, _, _, rfl, .inl (Same.lst (Same.tr g1 g2) hL.at_), _, _, rfl, rfl, ?_⟩
    exact ⟨false, congrArg V.bl (decide_eq_false (by omega)), iteF (q _ (Same.tr g1 g2))⟩
abbrev N_ring_ranges : List Str := ["setup", "log", "at"]
theorem sc_ring_ranges : FnScope N_ring_ranges ["setup", "log"] (C8.fnScope s_ring_ranges) := C8.fnScope_by (by decide +kernel)
theorem ok_ring_ranges {fd : FuncData} (T : Txt K mg) (F : FunD K "ring_ranges" "ring_ranges" (C8.fnArgs s_ring_ranges) (C8.fnBody s_ring_ranges) (C8.fnScope s_ring_ranges) [] [] (He.ga K "ring_ranges") fd) (c_first_impossible : C8.Cal P w K mg base 8 "first_impossible" (sp_first_impossible K) []) (c_played_ranges : C8.Cal P w K mg base 7 "played_ranges" (sp_played_ranges K) []) :
    C8.Cal P w K mg base 9 "ring_ranges" (sp_ring_ranges K) [] := by
  refine C8.cal0 (ds := []) ⟨fun_c8 F, T.f_ring_ranges, F.kp⟩ (F.bindsN fun _ _ _ _ _ _ us hl => match us, hl with | [_, _], _ => rfl) .nil sc_ring_ranges (fun vs H Q E h => ?_) (fun cdv A outer s H vs Q E hr h => ?_)
  · obtain ⟨_, _, _, _, _, _, _, rfl, _⟩ := h
    rfl
  · have nd := sc_ring_ranges.nd
    have hu := hu_of hr
    obtain ⟨su, a, S, xs, items, K0, M, rfl, hS, ok, pl, pl2, hL, sp0, q⟩ := h
    refine ⟨_, (pss_cons (ps_set (i := 2) nd rfl (Or.inl rfl) (C8.pe_c c_first_impossible hr (by decide) rfl (pa_cons (pv 0) (pa_cons (pv 1) pa_nil))))
      (pss_cons (ps_if (pt_cmpR op_notN (pv 2) pe_non (nomark _)) (pss_one ps_never) pss_nil)
      (pss_one (ps_ret (C8.pe_c c_played_ranges hr (by decide) rfl (pa_cons (pv 0) (pa_cons (pv 1) pa_nil))))))), ?_⟩
    refine ⟨_, rfl, _, rfl, su, a, S, xs, items, rfl, SetupAt.up sp0.ext hS, ok, pl, pl2, hL.up sp0.ext, fun H1 g1 => ?_⟩
    refine ⟨_, rfl, rfl, false, rfl, iteF ?_⟩
    exact ⟨_, rfl, _, rfl, su, a, S, xs, items, K0, M, rfl, hS, ok, pl, hL, sp0.grow g1, q⟩
end
end Cb

namespace Cb
open PySem PySem.Spec PyProof.Rows L2
/-! sorted texts are told by what they hold -/
theorem not_lt_le {a b : List Nat} (h : ltCps b a = false) : a ≤ b := by
  rw [ltCps_eq] at h
  exact List.not_lt.mp (of_decide_eq_false h)
theorem rising_pw : ∀ (l : List Str) (p : Str), risingS p l = true → (p :: l).Pairwise fun a b => a.cps.toList ≤ b.cps.toList
  | [], p, _ => by simp
  | x :: r, p, h => by
    obtain ⟨h1, h2⟩ := He.ba (show (!ltCps x.cps.toList p.cps.toList && risingS x r) = true from h)
    have h1 : ltCps x.cps.toList p.cps.toList = false := by simpa using h1
    have z := rising_pw r x h2
    have zx := List.pairwise_cons.mp z
    refine List.pairwise_cons.mpr ⟨fun y m => ?_, z⟩
    rcases List.mem_cons.mp m with e | m
    · subst e
      exact not_lt_le h1
    · exact List.le_trans (not_lt_le h1) (zx.1 y m)
theorem sorted_pw (l : List Str) (h : sortedS l = true) : l.Pairwise fun a b => a.cps.toList ≤ b.cps.toList := by
  cases l with
  | nil => exact .nil
  | cons x r => exact rising_pw r x h
theorem str_anti {a b : Str} (h : a.cps.toList ≤ b.cps.toList) (h' : b.cps.toList ≤ a.cps.toList) : a = b := by
  have e := List.le_antisymm h h'
  obtain ⟨a⟩ := a
  obtain ⟨b⟩ := b
  have e : a = b := Array.toList_inj.mp e
  rw [e]
theorem pw_uniq : ∀ {l1 l2 : List Str}, (l1.Pairwise fun a b => a.cps.toList ≤ b.cps.toList) → (l2.Pairwise fun a b => a.cps.toList ≤ b.cps.toList) → l1.Perm l2 → l1 = l2
  | [], l2, _, _, p => (List.Perm.nil_eq p)
  | x :: r, [], _, _, p => by
    have := p.length_eq
    simp at this
  | x :: r, y :: t, h1, h2, p => by
    have q1 := List.pairwise_cons.mp h1
    have q2 := List.pairwise_cons.mp h2
    have e : x = y := by
      have mx : x ∈ y :: t := p.mem_iff.mp List.mem_cons_self
      have my : y ∈ x :: r := p.mem_iff.mpr List.mem_cons_self
      rcases List.mem_cons.mp mx with e | m
      · exact e
      · rcases List.mem_cons.mp my with e | m2
        · exact e.symm
        · exact str_anti (q1.1 y m2) (q2.1 x m)
    subst e
    rw [pw_uniq q1.2 q2.2 p.cons_inv]
theorem sorted_uniq {l1 l2 : List Str} (h1 : sortedS l1 = true) (h2 : sortedS l2 = true) (p : l1.Perm l2) : l1 = l2 := pw_uniq (sorted_pw l1 h1) (sorted_pw l2 h2) p
/-! a dict from names to lists -/
abbrev En := Str × Addr × List Int
def kvE (es : List En) : List (Key × V) := es.map fun e => (.inr e.1, .ref e.2.1)
def clE (es : List En) : List (Addr × HO) := es.map fun e => (e.2.1, .lst (e.2.2.map V.int))
def keE (es : List En) : List Str := es.map (·.1)
def lsE : List En → Str → List Int
  | [], _ => []
  | e :: r, n => if e.1 = n then e.2.2 else lsE r n
theorem ls_none {n : Str} : ∀ {es : List En}, n ∉ keE es → lsE es n = []
  | [], _ => rfl
  | e :: r, h => by
    have h2 : ¬ e.1 = n := fun q => h (by unfold keE; rw [← q]; exact List.mem_cons_self)
    show (if e.1 = n then _ else lsE r n) = _
    rw [if_neg h2]
    exact ls_none fun m => h (List.mem_cons_of_mem _ m)
theorem ls_app {n : Str} : ∀ {l1 l2 : List En}, lsE (l1 ++ l2) n = if n ∈ keE l1 then lsE l1 n else lsE l2 n
  | [], l2 => by simp [keE]
  | e :: r, l2 => by
    show (if e.1 = n then e.2.2 else lsE (r ++ l2) n) = if n ∈ e.1 :: keE r then (if e.1 = n then e.2.2 else lsE r n) else lsE l2 n
    by_cases q : e.1 = n
    · subst q
      simp
    · have q2 : ¬ n = e.1 := fun z => q z.symm
      rw [if_neg q, ls_app]
      simp [q, q2]
theorem es_split {n : Str} : ∀ {es : List En}, (keE es).Nodup → n ∈ keE es → ∃ l1 a os l2, es = l1 ++ (n, a, os) :: l2 ∧ n ∉ keE l1 ∧ n ∉ keE l2
  | e :: r, nd, h => by
    have nd2 := List.nodup_cons.mp (show (e.1 :: keE r).Nodup from nd)
    by_cases q : e.1 = n
    · subst q
      exact ⟨[], e.2.1, e.2.2, r, rfl, (fun m => by cases m), nd2.1⟩
    · have h2 : n ∈ keE r := by
        rcases List.mem_cons.mp (show n ∈ e.1 :: keE r from h) with z | z
        · exact absurd z.symm q
        · exact z
      obtain ⟨l1, a, os, l2, rfl, h3, h4⟩ := es_split nd2.2 h2
      exact ⟨e :: l1, a, os, l2, rfl, fun m => by
        rcases List.mem_cons.mp (show n ∈ e.1 :: keE l1 from m) with z | z
        · exact q z.symm
        · exact h3 z, h4⟩
theorem val_split {n : Str} {a : Addr} {os : List Int} {l2 : List En} : ∀ {l1 : List En}, n ∉ keE l1 → valV (kvE (l1 ++ (n, a, os) :: l2)) (.inr n) = some (.ref a)
  | [], _ => by simp [kvE, valV]
  | e :: r, h => by
    have q : ¬ e.1 = n := fun z => h (by unfold keE; rw [← z]; exact List.mem_cons_self)
    have z := val_split (n := n) (a := a) (os := os) (l2 := l2) (l1 := r) fun m => h (List.mem_cons_of_mem _ m)
    unfold kvE valV at z ⊢
    rw [List.cons_append, List.map_cons, List.find?_cons_of_neg (by simp [q])]
    exact z
theorem val_none {n : Str} {es : List En} (h : n ∉ keE es) : valV (kvE es) (.inr n) = none := by
  unfold valV kvE
  rw [List.find?_eq_none.mpr]
  · rfl
  · intro x m
    obtain ⟨e, he, rfl⟩ := List.mem_map.mp m
    have : ¬ e.1 = n := fun q => h (by rw [← q]; exact List.mem_map_of_mem he)
    simp [this]
theorem put_new {n : Str} {b : Addr} {ns : List Int} {es : List En} (h : n ∉ keE es) : putK (kvE es) (.inr n) (.ref b) = kvE (es ++ [(n, b, ns)]) := by
  rw [putK_new]
  · simp [kvE]
  · intro e m q
    obtain ⟨x, hx, rfl⟩ := List.mem_map.mp m
    injection q with q
    exact h (q ▸ List.mem_map_of_mem hx)
theorem put_split {n : Str} {a b : Addr} {os ns : List Int} {l1 l2 : List En} (h1 : n ∉ keE l1) (h2 : n ∉ keE l2) : putK (kvE (l1 ++ (n, a, os) :: l2)) (.inr n) (.ref b) = kvE (l1 ++ (n, b, ns) :: l2) := by
  unfold putK
  rw [if_pos]
  · unfold kvE
    rw [List.map_map, List.map_append, List.map_append, List.map_cons, List.map_cons]
    have ne : ∀ l : List En, n ∉ keE l → ∀ e ∈ l, ¬ (Sum.inr e.1 : Key) = Sum.inr n := fun l h e m q => by
      injection q with q
      exact h (q ▸ List.mem_map_of_mem m)
    congr 1
    · refine List.map_congr_left fun e m => ?_
      simp [ne l1 h1 e m]
    · congr 1
      · simp
      · refine List.map_congr_left fun e m => ?_
        simp [ne l2 h2 e m]
  · exact List.any_eq_true.mpr ⟨(.inr n, .ref a), by unfold kvE; exact List.mem_map_of_mem (a := (n, a, os)) (by simp), by simp⟩
theorem ke_app {l1 l2 : List En} : keE (l1 ++ l2) = keE l1 ++ keE l2 := List.map_append
theorem cl_app {l1 l2 : List En} : clE (l1 ++ l2) = clE l1 ++ clE l2 := List.map_append
/-! which rings a line has had -/
def qOf (log : List (Int × LineD)) (asg : List Int) (n : Str) : List Int := ((log.zip asg).filter fun x => decide (x.1.2.name = n)).map (·.2)
def rgs (log : List (Int × LineD)) (asg : List Int) (pend : Str → Option Int) (n : Str) : List Int := qOf log asg n ++ (pend n).toList
theorem qOf_snoc {log : List (Int × LineD)} {asg : List Int} (h : asg.length = log.length) (x : Int × LineD) (r : Int) (n : Str) : qOf (log ++ [x]) (asg ++ [r]) n = qOf log asg n ++ if x.2.name = n then [r] else [] := by
  unfold qOf
  rw [List.zip_append h.symm, List.filter_append, List.map_append]
  congr 1
  by_cases e : x.2.name = n <;> simp [e]
theorem rgs_wait {log : List (Int × LineD)} {asg : List Int} {pend : Str → Option Int} {n : Str} {t : Int} (h : pend n = none) (m : Str) : rgs log asg (pset pend n (some t)) m = if m = n then rgs log asg pend n ++ [t] else rgs log asg pend m := by
  unfold rgs pset
  by_cases e : m = n
  · subst e
    simp [h]
  · simp [e]
theorem rgs_begin {log : List (Int × LineD)} {asg : List Int} {pend : Str → Option Int} (h : asg.length = log.length) (x : Int × LineD) {r : Int} (hp : pend x.2.name = some r) (m : Str) : rgs (log ++ [x]) (asg ++ [r]) (pset pend x.2.name none) m = rgs log asg pend m := by
  unfold rgs
  rw [qOf_snoc h]
  unfold pset
  by_cases e : m = x.2.name
  · subst e
    simp [hp]
  · have e2 : ¬ x.2.name = m := fun q => e q.symm
    simp [e, e2]
theorem qOf_drop {log : List (Int × LineD)} {asg : List Int} {k : Nat} {x : Int × LineD} {a : Int} (hx : log[k]? = some x) (ha : asg[k]? = some a) (n : Str) : qOf (log.drop k) (asg.drop k) n = (if x.2.name = n then [a] else []) ++ qOf (log.drop (k + 1)) (asg.drop (k + 1)) n := by
  have e1 : log.drop k = x :: log.drop (k + 1) := by
    obtain ⟨hk, rfl⟩ := List.getElem?_eq_some_iff.mp hx
    exact List.drop_eq_getElem_cons hk
  have e2 : asg.drop k = a :: asg.drop (k + 1) := by
    obtain ⟨hk, rfl⟩ := List.getElem?_eq_some_iff.mp ha
    exact List.drop_eq_getElem_cons hk
  rw [e1, e2]
  unfold qOf
  rw [List.zip_cons_cons]
  by_cases e : x.2.name = n <;> simp [e]
/-! drawing beside one processor -/
def DrP (K : PySem.W.Frag) (A : Ad) (S : SetD) (K' H : Hp) (s : StD) (row sc : Addr) (M : List (Addr × HO)) : Prop := ∃ i g x, 0 ≤ i ∧ (0 ≤ g ∧ g < 2147483647) ∧ Own K A S K' H s ((row, rowO sc i g x) :: M)
section
variable {K : PySem.W.Frag} {A : Ad} {S : SetD} {K0 H : Hp} {s : StD} {row sc : Addr} {M : List (Addr × HO)}
theorem DrP.dr (d : DrP K A S K0 H s row sc M) : ∃ N, Dr K0 H row sc N ∧ ∀ H', Dr K0 H' row sc N → DrP K A S K0 H' s row sc M := by
  obtain ⟨i, g, x, hi, hg, ow⟩ := d
  obtain ⟨sv, rv, h1, h2, sp⟩ := ow.ex
  exact ⟨_, ⟨i, g, x, hi, hg, sp.up6⟩, fun H' ⟨i', g', x', hi', hg', sp'⟩ => ⟨i', g', x', hi', hg', ow.fb, ow.fj, sv, rv, h1, h2, sp'.dn6⟩⟩
theorem takenP {m : Int} {ns : List Int} {σ : L2.St} {Q : VK} {E : XK} (hσ : σ[1]? = some (some (V.ref row))) (hm : 0 < m) (hm2 : m < 1000) (hsc : SqL K K0 sc (ns.map V.int)) (d : DrP K A S K0 H s row sc M) (q : ∀ H' r, 0 ≤ r → r < m → DrP K A S K0 H' s row sc M → Q (.int r) H') : tCall (sp_law_taken K) [] E (tCons (tVar 1) (tCons (tC (.int m)) tNil)) σ H Q := by
  obtain ⟨N, d1, d2⟩ := d.dr
  exact takenT hσ hm hm2 hsc d1 fun H' r a b d' => q H' r a b (d2 H' d')
theorem takenPV {v : Nat} {m : Int} {ns : List Int} {σ : L2.St} {Q : VK} {E : XK} (hσ : σ[1]? = some (some (V.ref row))) (hv : σ[v]? = some (some (V.int m))) (hm : 0 < m) (hm2 : m < 900) (hsc : SqL K K0 sc (ns.map V.int)) (d : DrP K A S K0 H s row sc M) (q : ∀ H' r, 0 ≤ r → r < m → DrP K A S K0 H' s row sc M → Q (.int r) H') : tCall (sp_law_taken K) [] E (tCons (tVar 1) (tCons (tVar v) tNil)) σ H Q := by
  obtain ⟨N, d1, d2⟩ := d.dr
  exact takenG hσ hv hm hm2 hsc d1 fun H' r a b d' => q H' r a b (d2 H' d')
theorem takenPL {v : Nat} {p : Addr} {acc : List V} {ns : List Int} {σ : L2.St} {Q : VK} {E : XK} (hσ : σ[1]? = some (some (V.ref row))) (hv : σ[v]? = some (some (V.ref p))) (hp : SqT K H p acc) (h0 : 0 < acc.length) (hm2 : acc.length < 900) (hsc : SqL K K0 sc (ns.map V.int)) (d : DrP K A S K0 H s row sc M) (q : ∀ H' r, 0 ≤ r → r < (acc.length : Int) → DrP K A S K0 H' s row sc M → Q (.int r) H') : tCall (sp_law_taken K) [] E (tCons (tVar 1) (tCons (tCB (fun xs H Q => ∃ p ys, xs = [V.ref p] ∧ (SqL K H p ys ∨ SqT K H p ys) ∧ Q (V.int ys.length) H) (tCons (tVar v) tNil)) tNil)) σ H Q := by
  obtain ⟨N, d1, d2⟩ := d.dr
  exact ⟨_, hσ, _, hv, p, acc, rfl, .inr hp, taken (E := E) (by omega) (by omega) hsc d1 fun H' r a b d' => q H' r a b (d2 H' d')⟩
theorem Own.permM {N : List (Addr × HO)} (h : Own K A S K0 H s M) (p : N.Perm M) : Own K A S K0 H s N := by
  obtain ⟨sv, rv, h1, h2, sp⟩ := h.ex
  exact ⟨h.fb, h.fj, sv, rv, h1, h2, sp.perm (((((((p.cons _).cons _).cons _).cons _).cons _).cons _))⟩
theorem Own.drop {a : Addr} {o : HO} (h : Own K A S K0 H s M) (e : H a = none) : Own K A S K0 (upd H a o) s M := by
  obtain ⟨sv, rv, h1, h2, sp⟩ := h.ex
  exact ⟨h.fb, h.fj, sv, rv, h1, h2, sp.drop e⟩
theorem Own.tailM {e : Addr × HO} (h : Own K A S K0 H s (e :: M)) : Own K A S K0 H s M := by
  obtain ⟨sv, rv, h1, h2, sp⟩ := h.ex
  exact ⟨h.fb, h.fj, sv, rv, h1, h2, sp.up6.tail⟩
theorem Own.keepM {a : Addr} {o : HO} (h : Own K A S K0 H s M) (e : H a = none) : Own K A S (upd K0 a o) (upd H a o) s M ∧ Same K0 (upd K0 a o) := by
  have z := (h.ownM' (o := o) (same_new (Same.refl H) e) e upd_same).freezeM
  exact z
end
end Cb

namespace Cb
open PySem PySem.Spec PyProof.Rows L2
theorem val_mem : ∀ {es : List En} {e : En}, (keE es).Nodup → e ∈ es → valV (kvE es) (.inr e.1) = some (.ref e.2.1)
  | x :: r, e, nd, h => by
    have nd2 := List.nodup_cons.mp (show (x.1 :: keE r).Nodup from nd)
    rcases List.mem_cons.mp h with q | m
    · subst q
      simp [kvE, valV]
    · have ne : ¬ x.1 = e.1 := fun q => nd2.1 (q ▸ List.mem_map_of_mem m)
      have z := val_mem nd2.2 m
      unfold kvE valV at z ⊢
      rw [List.map_cons, List.find?_cons_of_neg (by simp [ne])]
      exact z
theorem ls_mem : ∀ {es : List En} {e : En}, (keE es).Nodup → e ∈ es → lsE es e.1 = e.2.2
  | x :: r, e, nd, h => by
    have nd2 := List.nodup_cons.mp (show (x.1 :: keE r).Nodup from nd)
    rcases List.mem_cons.mp h with q | m
    · subst q
      show (if e.1 = e.1 then e.2.2 else _) = _
      rw [if_pos rfl]
    · have ne : ¬ x.1 = e.1 := fun q => nd2.1 (q ▸ List.mem_map_of_mem m)
      show (if x.1 = e.1 then _ else lsE r e.1) = _
      rw [if_neg ne]
      exact ls_mem nd2.2 m
theorem cut_last {xs : List V} : cutV xs none (some (-1)) = xs.take (xs.length - 1) := by
  have e : HT.sIx xs.length xs.length (some (-1)) = xs.length - 1 := by
    unfold HT.sIx
    simp only
    rw [if_pos (by decide)]
    omega
  unfold cutV
  rw [e]
  simp [HT.sIx]
def neE (e : En) : Bool := !e.2.2.isEmpty
def leftE (es : List En) : List Str := (es.filter neE).map (·.1)
theorem left_snoc {es : List En} {q : Nat} {e : En} (h : es[q]? = some e) : leftE (es.take (q + 1)) = leftE (es.take q) ++ if neE e = true then [e.1] else [] := by
  unfold leftE
  rw [filter_snoc neE h, List.map_append]
  congr 1
  split <;> rfl
/-! data -/
def itD (x : Int × LineD) : PyData := .tuple [.int x.1, .str x.2.name]
def prD (x : Int × Int) : PyData := .tuple [.int x.1, .int x.2]
theorem its_dp {K : PySem.W.Frag} {H : Hp} : ∀ {xs : List V} {l : List (Int × LineD)}, Paired (ItAt K H) xs l → DpAll K H xs (l.map itD)
  | _, _, .nil => .nil
  | _, _, .cons ⟨t, e, h⟩ p => by
    subst e
    exact .cons (.tup h (.cons (.int _) (.cons (.str _) .nil))) (its_dp p)
theorem prs_dp {K : PySem.W.Frag} {H : Hp} : ∀ {xs : List V} {l : List (Int × Int)}, Paired (PrAt K H) xs l → DpAll K H xs (l.map prD)
  | _, _, .nil => .nil
  | _, _, .cons ⟨t, e, h⟩ p => by
    subst e
    exact .cons (.tup h (.cons (.int _) (.cons (.int _) .nil))) (prs_dp p)
theorem its_lay : ∀ {l : List (Int × LineD)}, (∀ x ∈ l, nameOk x.2.name) → PyData.canLayAll0 (l.map itD) = true ∧ PyData.depthAll (l.map itD) ≤ 2
  | [], _ => by simp [PyData.canLayAll0, PyData.depthAll]
  | x :: l, h => by
    have z := its_lay (l := l) fun y m => h y (List.mem_cons_of_mem _ m)
    have h1 := h x List.mem_cons_self
    refine ⟨?_, ?_⟩
    · simp [itD, PyData.canLayAll0, PyData.canLay0, z.1, sok h1]
    · have := z.2
      simp [itD, PyData.depthAll, PyData.depth]
      omega
theorem its_sh {l : List (Int × LineD)} (h : ∀ x ∈ l, nameOk x.2.name) : SeqAt.shaped (.list (l.map itD)) = true := by
  have z := its_lay h
  unfold SeqAt.shaped
  simp [PyData.canLay0, z.1, PyData.depth]
  omega
theorem its_nil (l : List (Int × LineD)) : PyData.eqv (.list (l.map itD)) (.list []) = l.isEmpty := by
  cases l <;> simp [PyData.eqv, PyData.eqvAll]
theorem prs_lay : ∀ {l : List (Int × Int)}, PyData.canLayAll0 (l.map prD) = true ∧ PyData.depthAll (l.map prD) ≤ 2
  | [] => by simp [PyData.canLayAll0, PyData.depthAll]
  | x :: l => by
    have z := prs_lay (l := l)
    refine ⟨?_, ?_⟩
    · simp [prD, PyData.canLayAll0, PyData.canLay0, z.1]
    · have := z.2
      simp [prD, PyData.depthAll, PyData.depth]
      omega
theorem prs_sh (l : List (Int × Int)) : SeqAt.shaped (.list (l.map prD)) = true := by
  have z := prs_lay (l := l)
  unfold SeqAt.shaped
  simp [PyData.canLay0, z.1, PyData.depth]
  omega
theorem prs_all : ∀ l : List (Int × Int), PyData.eqvAll (l.map prD) (l.map prD) = true
  | [] => by simp [PyData.eqvAll]
  | x :: l => by
    have z := prs_all l
    simp [PyData.eqvAll, prD, PyData.eqv, z]
theorem prs_eq (l : List (Int × Int)) : PyData.eqv (.list (l.map prD)) (.list (l.map prD)) = true := by
  unfold PyData.eqv
  exact prs_all l
theorem strs_all : ∀ l : List Str, PyData.eqvAll ((l.map V.str).map toD) ((l.map V.str).map toD) = true
  | [] => by simp [PyData.eqvAll]
  | x :: l => by
    have z := strs_all l
    simp only [List.map_cons, toD]
    simp [PyData.eqvAll, PyData.eqv]
    simpa using z
theorem strs_eq (l : List Str) : PyData.eqv (.list ((l.map V.str).map toD)) (.list ((l.map V.str).map toD)) = true := by
  unfold PyData.eqv
  exact strs_all l
theorem names_flat {S : SetD} (ok : SetOk S) {l : List Str} (h : ∀ n ∈ l, ∃ k ∈ S.ls, k.name = n) : ∀ x ∈ l.map V.str, FlatOk x := fun x m => by
  obtain ⟨n, hn, rfl⟩ := List.mem_map.mp m
  obtain ⟨k, hk, rfl⟩ := h n hn
  exact .inr ⟨_, rfl, (ok.ok.ok k hk).nm⟩
theorem ints_flat (l : List Int) : ∀ x ∈ l.map V.int, FlatOk x := fun x m => by
  obtain ⟨n, hn, rfl⟩ := List.mem_map.mp m
  exact .inl ⟨_, rfl⟩
/-- the names that still wait -/
theorem left_perm {S : SetD} (ok : SetOk S) {s : StD} {pend : Str → Option Int} {es : List En} (nd : (keE es).Nodup) (ke : ∀ e ∈ es, ∃ l ∈ S.ls, l.name = e.1) (ls : ∀ l ∈ S.ls, lsE es l.name = (pend l.name).toList) (pd : ∀ l ∈ S.ls, s.rung l.name = (pend l.name).isSome) : (leftE es).Perm (S.order.filter s.rung) := by
  have nd1 : (leftE es).Nodup := nd.sublist (List.filter_sublist.map _)
  have nd2 : (S.order.filter s.rung).Nodup := ok.nd.sublist List.filter_sublist
  refine (List.perm_ext_iff_of_nodup nd1 nd2).mpr fun n => ?_
  constructor
  · intro m
    obtain ⟨e, he, rfl⟩ := List.mem_map.mp m
    obtain ⟨he1, he2⟩ := List.mem_filter.mp he
    obtain ⟨l, hl, hn⟩ := ke e he1
    have z := ls_mem nd he1
    rw [← hn, ls l hl] at z
    refine List.mem_filter.mpr ⟨hn ▸ ok.mem hl, ?_⟩
    rw [← hn, pd l hl]
    unfold neE at he2
    rw [← z] at he2
    cases q : pend l.name with
    | none => rw [q] at he2; simp at he2
    | some r => rfl
  · intro m
    obtain ⟨h1, h2⟩ := List.mem_filter.mp m
    obtain ⟨l, hl, rfl⟩ := ok.line h1
    rw [pd l hl] at h2
    obtain ⟨r, hr⟩ := Option.isSome_iff_exists.mp h2
    have z := ls l hl
    rw [hr] at z
    have hin : l.name ∈ keE es := Classical.byContradiction fun q => by
      rw [ls_none q] at z
      cases z
    obtain ⟨e, he, hn⟩ := List.mem_map.mp hin
    refine List.mem_map.mpr ⟨e, List.mem_filter.mpr ⟨he, ?_⟩, hn⟩
    have z2 := ls_mem nd he
    rw [hn, z] at z2
    unfold neE
    rw [← z2]
    rfl
end Cb

namespace Cb
open PySem PySem.Spec PyProof.Rows L2

theorem wsOk_nil : WsOk [] := ⟨(fun _ m => by cases m), .nil, by simp⟩
theorem plain_all {U : List LineD} (h : ∀ l ∈ U, l.lvl = false ∧ ∀ s ∈ l.steps, ∃ n, s = SD.run n ∧ 1 ≤ n ∧ n ≤ 99) : AllOk U [] := fun l hl s hs => by
  obtain ⟨n, rfl, h1, h2⟩ := (h l hl).2 s hs
  exact ⟨h1, h2⟩
structure PhI (S : SetD) (t : Nat) (s : StD) (items : List (Int × LineD)) (asg : List Int) (pend : Str → Option Int) (es : List En) : Prop where
  ri : RI S t s items asg pend
  ls : ∀ l ∈ S.ls, lsE es l.name = rgs items asg pend l.name
  nd : (keE es).Nodup
  ke : ∀ e ∈ es, ∃ l ∈ S.ls, l.name = e.1
structure P2 (S : SetD) (items : List (Int × LineD)) (asg : List Int) (pend : Str → Option Int) (k : Nat) (es : List En) : Prop where
  ls : ∀ l ∈ S.ls, lsE es l.name = qOf (items.drop k) (asg.drop k) l.name ++ (pend l.name).toList
  nd : (keE es).Nodup
  ke : ∀ e ∈ es, ∃ l ∈ S.ls, l.name = e.1
theorem Own.atM {K : PySem.W.Frag} {A : Ad} {S : SetD} {K0 H : Hp} {s : StD} {M : List (Addr × HO)} (h : Own K A S K0 H s M) {a : Addr} {o : HO} (m : (a, o) ∈ M) : H a = some o := by
  obtain ⟨sv, rv, h1, h2, sp⟩ := h.ex
  exact sp.at_ (by unfold lay; simp [m])
theorem keys_le {S : SetD} {es : List En} (nd : (keE es).Nodup) (ke : ∀ e ∈ es, ∃ l ∈ S.ls, l.name = e.1) (hll : S.ls.length ≤ 12) : (keE es).length ≤ 12 := by
  have z := nd.length_le_of_subset (l₂ := S.ls.map (·.name)) fun n m => by
    obtain ⟨e, he, rfl⟩ := List.mem_map.mp m
    obtain ⟨l, hl, hn⟩ := ke e he
    rw [← hn]
    exact List.mem_map_of_mem hl
  simp at z
  omega
theorem rgs_len {S : SetD} {t : Nat} {s : StD} {items : List (Int × LineD)} {asg : List Int} {pend : Str → Option Int} (I : RI S t s items asg pend) (n : Str) : (rgs items asg pend n).length ≤ t + 1 := by
  unfold rgs qOf
  have h1 := List.length_filter_le (fun x : (Int × LineD) × Int => decide (x.1.2.name = n)) (items.zip asg)
  have h2 := I.lg
  have h3 := I.al
  have h4 : (pend n).toList.length ≤ 1 := by cases pend n <;> simp
  rw [List.length_append, List.length_map]
  rw [List.length_zip] at h1
  omega
theorem ls_repl {n m : Str} {a b : Addr} {os ns : List Int} {l1 l2 : List En} (h1 : n ∉ keE l1) : lsE (l1 ++ (n, b, ns) :: l2) m = if m = n then ns else lsE (l1 ++ (n, a, os) :: l2) m := by
  rw [ls_app, ls_app]
  by_cases e : m = n
  · subst e
    rw [if_neg h1, if_pos rfl]
    show (if m = m then ns else _) = ns
    rw [if_pos rfl]
  · rw [if_neg e]
    by_cases h : m ∈ keE l1
    · rw [if_pos h, if_pos h]
    · rw [if_neg h, if_neg h]
      have e2 : ¬ n = m := fun q => e q.symm
      show (if n = m then ns else lsE l2 m) = (if n = m then os else lsE l2 m)
      rw [if_neg e2, if_neg e2]
theorem ls_new {n m : Str} {b : Addr} {ns : List Int} {es : List En} (h1 : n ∉ keE es) : lsE (es ++ [(n, b, ns)]) m = if m = n then ns else lsE es m := by
  rw [ls_app]
  by_cases e : m = n
  · subst e
    rw [if_neg h1, if_pos rfl]
    show (if m = m then ns else _) = ns
    rw [if_pos rfl]
  · rw [if_neg e]
    by_cases h : m ∈ keE es
    · rw [if_pos h]
    · rw [if_neg h, ls_none h]
      have e2 : ¬ n = m := fun q => e q.symm
      show (if n = m then ns else []) = []
      rw [if_neg e2]
theorem ls_hit {n : Str} {a : Addr} {os : List Int} {l1 l2 : List En} (h1 : n ∉ keE l1) : lsE (l1 ++ (n, a, os) :: l2) n = os := by
  rw [ls_app, if_neg h1]
  show (if n = n then os else _) = os
  rw [if_pos rfl]
theorem permA {α : Type} {ea eb r s m d : α} {X Y : List α} : (ea :: r :: s :: m :: d :: (X ++ eb :: Y)).Perm (eb :: s :: m :: r :: d :: (X ++ ea :: Y)) := by
  have h1 : (X ++ eb :: Y).Perm (eb :: (X ++ Y)) := List.perm_middle
  have h2 : (ea :: (X ++ Y)).Perm (X ++ ea :: Y) := List.perm_middle.symm
  refine (((((h1.cons d).cons m).cons s).cons r).cons ea).trans (List.Perm.trans ?_ (((((h2.cons d).cons r).cons m).cons s).cons eb))
  have p : ([ea, r, s, m, d, eb] ++ (X ++ Y)).Perm ([eb, s, m, r, d, ea] ++ (X ++ Y)) := by
    refine List.Perm.append_right _ ?_
    refine (List.perm_middle (l₁ := [ea, r, s, m, d]) (l₂ := [])).trans (.cons eb ?_)
    refine (List.perm_middle (l₁ := [ea, r])).trans (.cons s ?_)
    refine (List.perm_middle (l₁ := [ea, r])).trans (.cons m ?_)
    refine (List.perm_middle (l₁ := [ea])).trans (.cons r ?_)
    exact .swap _ _ _
  exact p
theorem permB {α : Type} {eb r s m d : α} {C : List α} : (r :: s :: m :: d :: (C ++ [eb])).Perm (eb :: s :: m :: r :: d :: C) := by
  have h1 : (C ++ [eb]).Perm (eb :: C) := by simpa using (List.perm_middle (l₁ := C) (a := eb) (l₂ := []))
  refine ((((h1.cons d).cons m).cons s).cons r).trans ?_
  have p : ([r, s, m, d, eb] ++ C).Perm ([eb, s, m, r, d] ++ C) := by
    refine List.Perm.append_right _ ?_
    refine (List.perm_middle (l₁ := [r, s, m, d]) (l₂ := [])).trans (.cons eb ?_)
    refine (List.perm_middle (l₁ := [r])).trans (.cons s ?_)
    exact (List.perm_middle (l₁ := [r])).trans (.cons m (.refl _))
  exact p
theorem Own.putAt {K : PySem.W.Frag} {A : Ad} {S : SetD} {K0 H : Hp} {s : StD} {L1 L2 : List (Addr × HO)} {a : Addr} {o o' : HO} (h : Own K A S K0 H s (L1 ++ (a, o) :: L2)) : Own K A S K0 (upd H a o') s (L1 ++ (a, o') :: L2) :=
  (h.permM List.perm_middle.symm).putM.permM List.perm_middle
theorem ItAt_len {K : PySem.W.Frag} {H : Hp} {xs : List V} {items : List (Int × LineD)} (p : Paired (ItAt K H) xs items) : xs.length = items.length := p.length

section
variable {P : Program} {w : World} {K : PySem.W.Frag} {mg : Str → Option Value} {base : Heap}

abbrev N_law : List Str := ["_law_script", "_law_row", "_law_turn", "_law_lines", "_law_setup", "_law_rung", "_law_log", "_law_way", "_law_single", "_law_tick", "_law_k", "_law_name", "_law_word", "_law_ranges", "_law_ring", "_law_left"]
theorem sc_law : FnScope N_law ["_law_script"] (C8.fnScope s_law) := C8.fnScope_by (by decide +kernel)
theorem ok_law {fd : FuncData} (T : Txt K mg) (F : FunD K "law" "law" (C8.fnArgs s_law) (C8.fnBody s_law) (C8.fnScope s_law) [] [] (He.ga K "law") fd) (c__law_taken : C8.Cal P w K mg base 1 "_law_taken" (sp_law_taken K) []) (c__law_plain : C8.Cal P w K mg base 3 "_law_plain" (sp_law_plain K) []) (c_Setup : C8.Mak P w K mg base 6 "Setup" (aC "Setup" K) (sp_Setup_init K) [.ref (He.dflAt ("Setup", some "__init__") 0 K)]) (c_Single : C8.Mak P w K mg base 7 "Single" (aC "Single" K) (sp_Single_init K) []) (c_ring : C8.Met P w K mg base 4 (aC "Single" K) "ring" (sp_Single_ring K) []) (c_tick : C8.Met P w K mg base 8 (aC "Single" K) "tick" (spP_tick K) []) (c_waiting : FnP P w K mg base 7 (prA "Single" "waiting" K) (sp_Single_waiting K)) (c_ring_ranges : C8.Cal P w K mg base 9 "ring_ranges" (sp_ring_ranges K) []) (c_first_impossible : C8.Cal P w K mg base 8 "first_impossible" (sp_first_impossible K) []) :
    FnOk P w K mg base C8.CX0 12 (He.ga K "law") fd ["_law_script"] (sp_law K) := by
  refine C8.fn0 (fun_c8 F) sc_law (fun vs H Q E h => ?_) (fun cdv A outer s H vs Q E hr h => ?_)
  · obtain ⟨_, _, rfl, _⟩ := h
    rfl
  · have nd := sc_law.nd
    have hu := hu_of hr
    obtain ⟨sc, ns, rfl, hsc, q⟩ := h
    obtain ⟨pwt, hpwt⟩ := T.p_Single_waiting
    refine ⟨_, (pss_cons (ps_set (i := 1) nd rfl (Or.inl rfl) (pe_lst (pa_cons (pv 0) (pa_cons pe_int (pa_cons pe_int (pa_cons pe_int pa_nil))))))
      (pss_cons (ps_for PassesOwn.never rfl (pi_range1 (by rfl) T.n_range (pa_cons pe_int pa_nil)) (pg_name (i := 2) nd rfl (Or.inl rfl)) (pss_cons (ps_set (i := 3) nd rfl (Or.inl rfl) (C8.pe_c c__law_plain hr (by decide) rfl (pa_cons (pv 1) (pa_cons pe_int (pa_cons pe_int pa_nil)))))
      (pss_cons (ps_asg (pe_tup (pa_cons (C8.pe_mk c_Setup hr (by decide) rfl (pa_cons (pv 3) pa_nil)) (pa_cons pe_dnewK (pa_cons (pe_lst pa_nil) (pa_cons (pe_op op_add pe_int (C8.pe_c c__law_taken hr (by decide) rfl (pa_cons (pv 1) (pa_cons pe_int pa_nil)))) pa_nil))))) (pg_tup rfl (pgs_cons (pg_name (i := 4) nd rfl (Or.inl rfl)) (pgs_cons (pg_name (i := 5) nd rfl (Or.inr rfl)) (pgs_cons (pg_name (i := 6) nd rfl (Or.inl rfl)) (pgs_cons (pg_name (i := 7) nd rfl (Or.inl rfl)) pgs_nil))))))
      (pss_cons (ps_set (i := 8) nd rfl (Or.inl rfl) (C8.pe_mk c_Single hr (by decide) rfl (pa_cons (pv 4) pa_nil)))
      (pss_cons (ps_for PassesOwn.never rfl (pi_range1 (by rfl) T.n_range (pa_cons pe_int pa_nil)) (pg_name (i := 9) nd rfl (Or.inr rfl)) (pss_cons (ps_for PassesOwn.never rfl (pi_range1 (by rfl) T.n_range (pa_cons (pe_op op_add (pe_callTy call_int1 (by rfl) T.n_int (by decide +kernel) (pa_cons (pe_cmpR op_eq (C8.pe_c c__law_taken hr (by decide) rfl (pa_cons (pv 1) (pa_cons (pv 7) pa_nil))) pe_int (nomark _)) pa_nil)) (pe_callTy call_int1 (by rfl) T.n_int (by decide +kernel) (pa_cons (pe_cmpR op_eq (C8.pe_c c__law_taken hr (by decide) rfl (pa_cons (pv 1) (pa_cons pe_int pa_nil))) pe_int (nomark _)) pa_nil))) pa_nil)) (pg_name (i := 10) nd rfl (Or.inl rfl)) (pss_cons (ps_set (i := 11) nd rfl (Or.inl rfl) (pe_ix ix_tup (pe_ix ix_tup (pv 3) (C8.pe_c c__law_taken hr (by decide) rfl (pa_cons (pv 1) (pa_cons (pe_callB call_len_seq (by rfl) T.n_len (by decide +kernel) (pa_cons (pv 3) pa_nil)) pa_nil))) (fun _ _ => rfl)) pe_int (fun _ _ => rfl)))
      (pss_one (ps_if (pt_cmpR op_eq (C8.pe_mt c_ring hr (by decide) (pv 8) (pa_cons (pv 11) pa_nil)) pe_str (nomark _)) (pss_one (ps_dput hu (pv 5) (pv 11) (pe_op op_cat (pe_dget2 hu (pv 5) (pv 11) (pe_lst pa_nil) ⟨rfl, rfl, rfl, rfl⟩) (pe_lst (pa_cons (pv 9) pa_nil))) rfl)) pss_nil))))
      (pss_one (ps_set (i := 6) nd rfl (Or.inl rfl) (pe_op op_cat (pv 6) (pe_lc (own := [("_law_word", 12), ("_law_name", 11)]) rfl nd (pi_list (C8.pe_mt0 c_tick hr (by decide) (pv 8))) (blkOk_by (own := [("_law_word", 12), ("_law_name", 11)]) (N := N_law) (sc := (C8.fnScope s_law)) (by decide +kernel)) (fun _ _ _ _ _ => (pg_tup (n := 2) rfl (pgs_cons (pg_name (i := 12) nd rfl (Or.inl rfl)) (pgs_cons (pg_name (i := 11) nd rfl (Or.inl rfl)) pgs_nil)) : PG _ _ (gTup K 2 _))) (fun _ _ _ _ _ => (pts_one (pt_cmpR op_eq (pv 12) pe_str (nomark _)))) (fun _ _ _ _ _ => (pe_tup (pa_cons (pv 9) (pa_cons (pv 11) pa_nil))))))))))
      (pss_cons (ps_set (i := 13) nd rfl (Or.inl rfl) (C8.pe_c c_ring_ranges hr (by decide) rfl (pa_cons (pv 4) (pa_cons (pv 6) pa_nil))))
      (pss_cons (ps_if (PW.pt (pw_or (pt_cmpR op_notN (C8.pe_c c_first_impossible hr (by decide) rfl (pa_cons (pv 4) (pa_cons (pv 6) pa_nil))) pe_non (nomark _)) (pw_or1 (pt_cmpR op_ne (pe_callB call_len_seq (by rfl) T.n_len (by decide +kernel) (pa_cons (pv 13) pa_nil)) (pe_callB call_len_seq (by rfl) T.n_len (by decide +kernel) (pa_cons (pv 6) pa_nil)) (nomark _))))) (pss_one (ps_ret pe_bl)) pss_nil)
      (pss_cons (ps_for PassesOwn.never rfl (pi_range1 (by rfl) T.n_range (pa_cons (pe_callB call_len_seq (by rfl) T.n_len (by decide +kernel) (pa_cons (pv 6) pa_nil)) pa_nil)) (pg_name (i := 10) nd rfl (Or.inl rfl)) (pss_cons (ps_asg (pe_ix ix_list (pv 6) (pv 10) (fun _ _ => rfl)) (pg_tup rfl (pgs_cons (pg_name (i := 9) nd rfl (Or.inr rfl)) (pgs_cons (pg_name (i := 11) nd rfl (Or.inl rfl)) pgs_nil))))
      (pss_cons (ps_set (i := 14) nd rfl (Or.inl rfl) (pe_bm PySem.F.plainAttrs_list PySem.F.slot_list_pop PySem.F.type_list_pop mt_popAt (pe_dget hu (pv 5) (pv 11) (fun _ _ => rfl)) (pa_cons pe_int pa_nil)))
      (pss_one (ps_if (PW.pt (pw_or (pt_not (pt_chain op_le op_le (pe_ix ix_tup (pe_ix ix_list (pv 13) (pv 10) (fun _ _ => rfl)) pe_int (fun _ _ => rfl)) (pv 14) (pe_ix ix_tup (pe_ix ix_list (pv 13) (pv 10) (fun _ _ => rfl)) pe_int (fun _ _ => rfl)))) (pw_or (pt_cmpR op_ne (pe_ix ix_tup (pe_ix ix_list (pv 13) (pv 10) (fun _ _ => rfl)) pe_int (fun _ _ => rfl)) (pv 9) (nomark _)) (pw_or1 (pt_cmpR op_lt (pe_ix ix_tup (pe_ix ix_list (pv 13) (pv 10) (fun _ _ => rfl)) pe_int (fun _ _ => rfl)) pe_int (nomark _)))))) (pss_one (ps_ret pe_bl)) pss_nil)))))
      (pss_cons (ps_lock (ps_setLc (i := 15) (own := [("_law_name", 11)]) rfl nd rfl rfl (sw_true rfl rfl rfl (by decide +kernel)) (pi_keys (pv 5)) (blkOk_by (own := [("_law_name", 11)]) (N := N_law) (sc := (C8.fnScope s_law)) (by decide +kernel)) (fun _ _ _ _ _ => (pg_name (i := 11) nd rfl (Or.inl rfl))) (fun _ _ _ _ _ => (pts_one (pt_cmpR (op_neD (hu64_of hr) : OpR _ _ (rNeD K)) (pe_dget hu (pv 5) (pv 11) (fun _ _ => rfl)) (pe_lst pa_nil) (nomark _)))) (fun _ _ _ _ _ => (pv 11))))
      (pss_cons (ps_if (pt_cmpR (op_neD (hu64_of hr)) (pe_callB cr_sortedS (by rfl) T.n_sorted (by decide +kernel) (pa_cons (pv 15) pa_nil)) (pe_callB cr_sortedS (by rfl) T.n_sorted (by decide +kernel) (pa_cons (C_prop hpwt T.cl_Single c_waiting hr (by decide) (pv 8)) pa_nil)) (nomark _)) (pss_one (ps_ret pe_bl)) pss_nil)
      (pss_one (ps_if (PW.pt (pw_and (pt_cmpR (op_neD (hu64_of hr)) (pv 6) (pe_lst pa_nil) (nomark _)) (pw_and1 (pt_cmpR (op_neD (hu64_of hr)) (C8.pe_c c_ring_ranges hr (by decide) rfl (pa_cons (pv 4) (pa_cons (pe_slice sl_list (pv 6) po_none (po_some (pe_un un_neg pe_int))) pa_nil))) (pe_slice sl_list (pv 13) po_none (po_some (pe_un un_neg pe_int))) (nomark _))))) (pss_one (ps_ret pe_bl)) pss_nil))))))))))))
      (pss_one (ps_ret pe_bl)))), ?_⟩
    refine ⟨_, rfl, small8 (by simp), fun row hrow => ?_⟩
    have sp0 : Sep H _ [(row, rowO sc 0 0 0)] := Sep.nil.own hrow
    refine ⟨_, rfl, by decide, by decide, ?_⟩
    refine for_it (walk_range (lo := 0) (n := 3)) (fun _ σ H' => ∃ y2 y3 y4 y5 y6 y7 y8 y9 y10 y11 y12 y13 y14 y15 K', σ = [some (.ref sc), some (.ref row), y2, y3, y4, y5, y6, y7, y8, y9, y10, y11, y12, y13, y14, y15] ∧ Same H K' ∧ Dr K' H' row sc []) ⟨_, _, _, _, _, _, _, _, _, _, _, _, _, _, H, rfl, Same.refl H, 0, 0, 0, by omega, by omega, sp0⟩ (fun _ _ _ _ _ => trivial) ?_ (fun σ H' _ => q H')
    rintro i v σ H1 H2 hi ⟨y2, y3, y4, y5, y6, y7, y8, y9, y10, y11, y12, y13, y14, y15, K1, rfl, g1, d1⟩ ⟨rfl, rfl⟩
    have sc1 := Same.lst g1 hsc
    refine ⟨_, rfl, row, sc, 6, 5, ns, K1, [], rfl, by decide, by decide, by decide, by decide, sc1, d1, fun K2 H3 p lns nv rv k g2 d2 hL hnv hrv hk1 hk6 pd => ?_⟩
    have sc2 := Same.lst g2 sc1
    have hok := pd.ok hnv hrv hk1 hk6
    have hpla : ∀ l ∈ lns, l.lvl = false ∧ ∀ s ∈ l.steps, ∃ n, s = SD.run n ∧ 1 ≤ n ∧ n ≤ 99 := fun l m => ⟨(pd.bd l m).2.2.1, (pd.bd l m).2.2.2⟩
    obtain ⟨xs, hxs, hpl⟩ := hL
    have hxl := hpl.length
    have hll := hok.1.le
    obtain ⟨ri, rg, rx, hri, hrg, sp2⟩ := d2
    refine ⟨_, rfl, fun su sd hsu hsd hne => ?_⟩
    have so := sp2.obj (o := .own su) (o' := .ins (aC "Setup" K) sd []) hsu hsd hne
    refine ⟨su, sd, p, _, lns, [], K2, _, rfl, so, ⟨xs, hxs, hpl⟩, ⟨[], T.d_Setup _, .nil⟩, hok.1, wsOk_nil, plain_all hpla, fun K3 H4 S g3 s3 hS hls hws hokS => ⟨rfl, ?_⟩⟩
    subst hls
    refine fun D hD => ?_
    have s4 := s3.own (o := .dK []) hD
    refine ⟨Nat.zero_le _, fun la hla => ?_⟩
    have s5 := s4.keep (o := .lst []) hla
    have g5 := s4.newk (o := .lst []) hla
    have hla5 : upd K3 la (.lst []) la = some (.lst []) := upd_same
    revert s5 g5 hla5
    generalize upd K3 la (.lst []) = K4
    intro s5 g5 hla5
    have g24 : Same K2 K4 := Same.tr g3 g5
    have dr5 : Dr K4 _ row sc [(D, .dK [])] := ⟨ri, rg, rx, hri, hrg, s5.swap⟩
    refine takenT rfl (by decide) (by decide) (Same.lst g24 sc2) dr5 fun H6 r0 a1 a2 d6 => ?_
    refine ⟨_, _, rfl, rfl, small8 (by simp), fun tt htt => ?_⟩
    have d7 := d6.drop (o := .tup [.ref su, .ref D, .ref la, .int (1 + r0)]) htt
    refine ⟨_, _, rfl, t_of upd_same, rfl, _, _, rfl, _, _, rfl, _, _, rfl, _, _, rfl, rfl, ?_⟩
    obtain ⟨ri1, rg1, rx1, hri1, hrg1, sp7⟩ := d7
    have hS4 := SetupAt.up g5 hS
    refine ⟨_, rfl, fun si sd2 hsi hsd2 hne2 => ?_⟩
    have so2 := sp7.obj (o := .own si) (o' := .ins (aC "Single" K) sd2 []) hsi hsd2 hne2
    refine ⟨si, sd2, su, S, K4, _, rfl, so2, hS4, hokS, fun l m => (hpla l m).1, fun K5 H8 A m g6 eA hM ow => ⟨rfl, ?_⟩⟩
    have plS : PlainS S := fun l hl st ms => ((hpla l hl).2 st ms).elim fun n h => ⟨n, h.1, h.2.1⟩
    have pl2 : Plain2 S := ⟨fun l hl => ⟨(hpla l hl).1, fun st ms => ((hpla l hl).2 st ms).elim fun n h => ⟨n, h.1⟩⟩, List.pairwise_map.mpr ((List.pairwise_map.mp hok.1.nd).imp_of_mem fun ha hb h e => h (by rw [hok.2 _ ha _ hb e]))⟩
    have rkS : Ranks S := hok.2
    have g25 : Same K2 K5 := Same.tr g24 g6
    have sc5 : SqL K K5 sc (ns.map V.int) := Same.lst g25 sc2
    have hxs5 := Same.tup g25 hxs
    have hpl5 := hpl.mono fun _ _ z => LineAt.up g25 z
    have hS5 := SetupAt.up g6 hS4
    have hla6 := g6 _ _ hla5
    have hpos : 0 < xs.length := by
      have := hok.1.ne
      rcases e : S.ls with _ | ⟨a, b⟩
      · exact absurd e this
      · rw [hxl, e]
        simp
    refine ⟨_, rfl, by decide, by decide, ?_⟩
    refine for_it (walk_range (lo := 0) (n := 60)) (fun i σ H' => ∃ y2 y9 y10 y11 y12 y13 y14 y15 la K' s lv items asg pend es c, σ = [some (.ref sc), some (.ref row), y2, some (.ref p), some (.ref su), some (.ref D), some (.ref la), some (.int (1 + r0)), some (.ref si), y9, y10, y11, y12, y13, y14, y15] ∧ Same K5 K' ∧ DrP K A S K' H' s row sc ((si, siI K A sd2 (i : Nat)) :: (m, .dK (md S.order c)) :: (D, .dK (kvE es)) :: clE es) ∧ K' la = some (.lst lv) ∧ Paired (ItAt K K') lv items ∧ PhI S i s items asg pend es) ⟨_, _, _, _, _, _, _, _, la, K5, st0, [], [], [], fun _ => none, [], no0, rfl, Same.refl _, ⟨ri1, rg1, rx1, hri1, hrg1, ow.permM (List.perm_middle (l₁ := [_, _])).symm⟩, hla6, .nil, ri_0, (fun l _ => rfl), .nil, (fun e m => by cases m)⟩ (fun _ _ _ _ _ => trivial) ?_ ?_
    · rintro i v σ H9 H10 hi ⟨y2, y9, y10, y11, y12, y13, y14, y15, la, K', s, lv, items, asg, pend, es, c, rfl, g, d, hla', hit, ph⟩ ⟨rfl, rfl⟩
      refine takenPV rfl rfl (by omega) (by omega) (Same.lst g sc5) d fun H11 r1 b1 b2 d => ⟨rfl, .inr ⟨_, rfl, ?_⟩⟩
      generalize decide (V.int r1 = V.int 0) = bb1
      refine takenP rfl (by decide) (by decide) (Same.lst g sc5) d fun H12 r2 b3 b4 d => ⟨rfl, .inr ⟨_, rfl, ?_⟩⟩
      generalize decide (V.int r2 = V.int 0) = bb2
      refine ⟨_, _, rfl, rfl, ?_⟩
      have hbb : 0 ≤ (if bb1 = true then (1 : Int) else 0) + (if bb2 = true then (1 : Int) else 0) ∧ (if bb1 = true then (1 : Int) else 0) + (if bb2 = true then (1 : Int) else 0) ≤ 2 := by cases bb1 <;> cases bb2 <;> simp
      refine ⟨_, rfl, by omega, by omega, ?_⟩
      refine for_it (walk_range (lo := 0) (n := ((if bb1 = true then (1 : Int) else 0) + (if bb2 = true then (1 : Int) else 0)).toNat)) (fun _ σ H' => ∃ y2 y10 y11 y12 y13 y14 y15 K' s pend es c, σ = [some (.ref sc), some (.ref row), y2, some (.ref p), some (.ref su), some (.ref D), some (.ref la), some (.int (1 + r0)), some (.ref si), some (.int (0 + (i : Nat))), y10, y11, y12, y13, y14, y15] ∧ Same K5 K' ∧ DrP K A S K' H' s row sc ((si, siI K A sd2 (i : Nat)) :: (m, .dK (md S.order c)) :: (D, .dK (kvE es)) :: clE es) ∧ K' la = some (.lst lv) ∧ Paired (ItAt K K') lv items ∧ PhI S i s items asg pend es) ⟨_, _, _, _, _, _, _, K', s, pend, es, c, rfl, g, d, hla', hit, ph⟩ (fun _ _ _ _ _ => trivial) ?_ ?_
      · rintro j v σ H13 H14 hj ⟨y2, y10, y11, y12, y13, y14, y15, K', s, pend, es, c, rfl, g, d, hla', hit, ph⟩ ⟨rfl, rfl⟩
        have hxs' := Same.tup g hxs5
        have ds : Same K' H14 := by
          obtain ⟨_, _, _, _, _, ow⟩ := d
          exact ow.same
        refine ⟨_, rfl, takenPL rfl rfl (Same.tup ds hxs') hpos (by omega) (Same.lst g sc5) d fun H15 r3 b5 b6 d => ?_⟩
        obtain ⟨xi, xg, xx, hxi, hxg, ow⟩ := d
        have hrl : r3.toNat < xs.length := by omega
        have hv1 : xs[r3.toNat]? = some xs[r3.toNat] := List.getElem?_eq_getElem hrl
        obtain ⟨l, hl, ll, lh, lhs, hle, hla2, _⟩ := pget hpl5 hv1
        have hrr : atI xs r3 = some (.ref ll) := by
          have z := atIn hv1
          rw [show ((r3.toNat : Nat) : Int) = r3 by omega, hle] at z
          exact z
        have hlS : l ∈ S.ls := List.mem_of_getElem? hl
        refine ⟨_, _, _, _, rfl, rfl, Same.tup ow.same hxs', hrr, _, _, _, _, rfl, rfl, Same.tup (Same.tr g ow.same) hla2, rfl, ?_⟩
        have ow1 := ow.permM (List.perm_middle (l₁ := [(si, siI K A sd2 (i : Nat)), (m, .dK (md S.order c))]))
        refine ⟨_, rfl, si, sd2, _, rfl, ow1.fr, rfl, _, rfl, A, S, K', s, si, sd2, _, _, l, m, c, rfl, MgAt.up g hM, ow1, hlS, fun H16 x c' exx ow2 => ?_⟩
        have rr := ri_ring hokS ph.ri hlS
        cases hru : s.rung l.name with
        | true =>
          rw [hru] at exx rr
          refine ⟨rfl, false, congrArg V.bl (by rw [exx]; decide), iteF ?_⟩
          exact ⟨_, _, _, _, _, _, _, K', _, pend, es, c', rfl, g, ⟨xi, xg, xx, hxi, hxg, ow2.permM (List.perm_middle (l₁ := [(si, siI K A sd2 (i : Nat)), (m, .dK (md S.order c'))])).symm⟩, hla', hit, ⟨rr, ph.ls, ph.nd, ph.ke⟩⟩
        | false =>
          rw [hru] at exx rr
          refine ⟨rfl, true, congrArg V.bl (by rw [exx]; decide), iteT ?_⟩
          have hpn : pend l.name = none := by
            have z := ph.ri.pd l hlS
            rw [hru] at z
            exact Option.isNone_iff_eq_none.mp (by cases e : pend l.name with
              | none => rfl
              | some r => rw [e] at z; cases z)
          have hlq := ph.ls l hlS
          have hDd : H16 D = some (.dK (kvE es)) := ow2.atM (by simp)
          have hke : (keE es).length ≤ 12 := keys_le ph.nd ph.ke hll
          have hkl : (kvE es).length < sizeLine := sm (m := 12) (by simpa [kvE, keE] using hke) (by decide)
          have hlsl := rgs_len ph.ri l.name
          refine ⟨_, rfl, D, rfl, .inl ⟨_, .inl hDd⟩, _, rfl, Nat.zero_le _, fun n0 hn0 => ?_⟩
          have ow3 := ow2.drop (o := .lst []) hn0
          have hDd3 : upd H16 n0 (.lst []) D = some (.dK (kvE es)) := ow3.atM (by simp)
          by_cases hin : l.name ∈ keE es
          · obtain ⟨l1, a, os, l2, rfl, hn1, hn2⟩ := es_split ph.nd hin
            have hos : os = rgs items asg pend l.name := by rw [← hlq]; exact (ls_hit hn1).symm
            refine ⟨some (.ref a), val_split hn1 ▸ DGet.k (k := .inr l.name) hDd3, ?_⟩
            refine ⟨_, rfl, small8 (by simp), fun q0 hq0 => ?_⟩
            have ow4 := ow3.drop (o := .lst [.int (0 + (i : Nat))]) hq0
            have ha4 : upd (upd H16 n0 (.lst [])) q0 (.lst [.int (0 + (i : Nat))]) a = some (.lst (os.map V.int)) := ow4.atM (by simp [clE])
            have hosl : os.length ≤ 61 := by rw [hos]; omega
            refine ⟨_, _, _, _, rfl, rfl, ha4, upd_same, Nat.le_of_lt (sm (m := 100) (by simp; omega) (by decide)), fun b hb => ?_⟩
            have eb : os.map V.int ++ [V.int (0 + (i : Nat))] = (os ++ [((i : Nat) : Int)]).map V.int := by simp
            rw [eb]
            have ow5 := ow4.ownM' (o := .lst ((os ++ [((i : Nat) : Int)]).map V.int)) (same_new (Same.refl _) hb) hb upd_same
            have hD5 := ow5.atM (a := D) (o := .dK (kvE (l1 ++ (l.name, a, os) :: l2))) (by simp)
            have dp := DPut.k (k := .inr l.name) (v := .ref b) hD5 hkl
            rw [put_split (ns := os ++ [((i : Nat) : Int)]) hn1 hn2] at dp
            refine ⟨_, rfl, _, rfl, D, _, rfl, dp, ?_⟩
            have ow6 := Own.putAt (L1 := [(b, .lst ((os ++ [((i : Nat) : Int)]).map V.int)), (si, siI K A sd2 (i : Nat)), (m, .dK (md S.order c')), (row, rowO sc xi xg xx)]) (o' := .dK (kvE (l1 ++ (l.name, b, os ++ [((i : Nat) : Int)]) :: l2))) ow5
            rw [cl_app] at ow6
            have ow7 := (ow6.permM (N := (a, .lst (os.map V.int)) :: (row, rowO sc xi xg xx) :: (si, siI K A sd2 (i : Nat)) :: (m, .dK (md S.order c')) :: (D, .dK (kvE (l1 ++ (l.name, b, os ++ [((i : Nat) : Int)]) :: l2))) :: (clE l1 ++ (b, .lst ((os ++ [((i : Nat) : Int)]).map V.int)) :: clE l2)) permA).tailM
            refine ⟨_, _, _, _, _, _, _, K', _, pset pend l.name (some ((i : Nat) : Int)), l1 ++ (l.name, b, os ++ [((i : Nat) : Int)]) :: l2, c', rfl, g, ⟨xi, xg, xx, hxi, hxg, ?_⟩, hla', hit, ⟨rr, fun k hk => ?_, ?_, fun e me => ?_⟩⟩
            · rw [cl_app]
              exact ow7
            · rw [ls_repl (a := a) (os := os) hn1, rgs_wait hpn k.name, ← hos, ph.ls k hk]
            · have z := ph.nd
              rw [ke_app] at z ⊢
              exact z
            · rcases List.mem_append.mp me with me | me
              · exact ph.ke e (List.mem_append_left _ me)
              · rcases List.mem_cons.mp me with q | me
                · rw [q]
                  exact ⟨l, hlS, rfl⟩
                · exact ph.ke e (List.mem_append_right _ (List.mem_cons_of_mem _ me))
          · have hrz : rgs items asg pend l.name = [] := by rw [← hlq]; exact ls_none hin
            refine ⟨none, val_none hin ▸ DGet.k (k := .inr l.name) hDd3, ?_⟩
            refine ⟨_, rfl, small8 (by simp), fun q0 hq0 => ?_⟩
            have ow4 := ow3.drop (o := .lst [.int (0 + (i : Nat))]) hq0
            have hn4 : upd (upd H16 n0 (.lst [])) q0 (.lst [.int (0 + (i : Nat))]) n0 = some (.lst []) := same_new (Same.refl _) hq0 _ _ upd_same
            refine ⟨_, _, _, _, rfl, rfl, hn4, upd_same, Nat.le_of_lt (sm (m := 100) (by simp) (by decide)), fun b hb => ?_⟩
            have eb : [] ++ [V.int (0 + (i : Nat))] = [((i : Nat) : Int)].map V.int := by simp
            rw [eb]
            have ow5 := ow4.ownM' (o := .lst ([((i : Nat) : Int)].map V.int)) (same_new (Same.refl _) hb) hb upd_same
            have hD5 := ow5.atM (a := D) (o := .dK (kvE es)) (by simp)
            have dp := DPut.k (k := .inr l.name) (v := .ref b) hD5 hkl
            rw [put_new (ns := [((i : Nat) : Int)]) hin] at dp
            refine ⟨_, rfl, _, rfl, D, _, rfl, dp, ?_⟩
            have ow6 := Own.putAt (L1 := [(b, .lst ([((i : Nat) : Int)].map V.int)), (si, siI K A sd2 (i : Nat)), (m, .dK (md S.order c')), (row, rowO sc xi xg xx)]) (o' := .dK (kvE (es ++ [(l.name, b, [((i : Nat) : Int)])]))) ow5
            have ow7 := ow6.permM (N := (row, rowO sc xi xg xx) :: (si, siI K A sd2 (i : Nat)) :: (m, .dK (md S.order c')) :: (D, .dK (kvE (es ++ [(l.name, b, [((i : Nat) : Int)])]))) :: (clE es ++ [(b, .lst ([((i : Nat) : Int)].map V.int))])) permB
            refine ⟨_, _, _, _, _, _, _, K', _, pset pend l.name (some ((i : Nat) : Int)), es ++ [(l.name, b, [((i : Nat) : Int)])], c', rfl, g, ⟨xi, xg, xx, hxi, hxg, ?_⟩, hla', hit, ⟨rr, fun k hk => ?_, ?_, fun e me => ?_⟩⟩
            · rw [cl_app]
              exact ow7
            · rw [ls_new hin, rgs_wait hpn k.name, hrz, ph.ls k hk]
              rfl
            · rw [ke_app]
              refine List.nodup_append.mpr ⟨ph.nd, by simp [keE], fun x mx y my q => ?_⟩
              have : y = l.name := by simpa [keE] using my
              rw [this] at q
              exact hin (q ▸ mx)
            · rcases List.mem_append.mp me with me | me
              · exact ph.ke e me
              · rw [List.mem_singleton.mp me]
                exact ⟨l, hlS, rfl⟩
      · rintro σ H13 ⟨y2, y10, y11, y12, y13, y14, y15, K', s, pend, es, c, rfl, g, d, hla', hit, ph⟩
        obtain ⟨xi, xg, xx, hxi, hxg, ow⟩ := d
        have ow1 := ow.swapM
        have hts := ph.ri.ts
        refine ⟨_, rfl, _, rfl, si, sd2, _, rfl, ow1.fr, rfl, A, S, K', s, si, sd2, _, _, rfl, ow1, ph.ri.is.bis.g1, plS, by omega, fun Ka H14 pe ev evs s1 ga ow2 hpe hev he => ?_⟩
        have he1 : s1 = (tickP S s).1 := congrArg Prod.fst he
        have he2 : evs = (tickP S s).2 := congrArg Prod.snd he
        have htl := (tick_len hokS plS ph.ri.is.bis.g1).1
        have hte := tick_ev hokS plS ph.ri.is.bis.g1
        obtain ⟨asg', pend', ri', hcs⟩ := ri_tick hokS plS rkS (by omega) ph.ri
        rw [← he2] at htl hte ri' hcs
        rw [← he1] at ri'
        have hevl := hev.length
        have hz : (0 : Int) + (i : Nat) = (i : Nat) := by omega
        refine ⟨_, rfl, ⟨_, l_of (ow2.same _ _ hpe)⟩, fun Dn hDn => ?_⟩
        refine lc_it (walk_list (xs := ev)) (fun q H' => ∃ K'' acc, Same Ka K'' ∧ Own K A S K'' H' s1 ((Dn, .lst acc) :: (si, siI K A sd2 ((i : Nat) + 1)) :: (row, rowO sc xi xg xx) :: (m, .dK (md S.order c)) :: (D, .dK (kvE es)) :: clE es) ∧ Paired (ItAt K K'') acc (((evs.take q).filterMap bgn?).map fun l => (((i : Nat) : Int), l)) ∧ acc.length ≤ q) ⟨Ka, [], Same.refl _, ow2.ownM' (same_new (Same.refl _) hDn) hDn upd_same, .nil, Nat.le_refl _⟩ ?_ ?_ ?_
        · rintro q H' _ ⟨K'', acc, g'', ow', _, _⟩
          exact l_of (ow'.same _ _ (g'' _ _ hpe))
        · rintro q v H15 H16 hq ⟨K'', acc, g'', ow', pr, hle⟩ ⟨rfl, e2⟩
          obtain ⟨e, hee, t, rfl, ht⟩ := pget hev e2
          obtain ⟨l, hl, hbf⟩ := hte e (List.mem_of_getElem? hee)
          refine ⟨_, _, rfl, Same.tup (Same.tr g'' ow'.same) ht, rfl, _, _, rfl, _, _, rfl, rfl, rfl, _, rfl, rfl, ?_⟩
          rcases hbf with rfl | rfl
          · have hfs : (((evs.take (q + 1)).filterMap bgn?).map fun l => (((i : Nat) : Int), l)) = (((evs.take q).filterMap bgn?).map fun l => (((i : Nat) : Int), l)) ++ [(((i : Nat) : Int), l)] := by
              rw [take_snoc hee, List.filterMap_append, List.map_append]
              rfl
            rw [hfs]
            refine ⟨true, congrArg V.bl (decide_eq_true rfl), iteT ⟨_, rfl, _, rfl, small8 (by simp), fun t2 ht2 => ?_⟩⟩
            have kk := ow'.keepM (o := .tup [.int (0 + (i : Nat)), .str (Ev.bgn l).name]) ht2
            refine ⟨acc, kk.1.fr, sm (m := 12) (by omega) (by decide), _, _, Same.tr g'' kk.2, kk.1.putM, Paired.snoc (pr.mono fun _ _ z => ItAt.up kk.2 z) ⟨t2, rfl, ?_⟩, by simp; omega⟩
            have z : SqT K (upd K'' t2 (.tup [.int (0 + (i : Nat)), .str (Ev.bgn l).name])) t2 [.int (0 + (i : Nat)), .str (Ev.bgn l).name] := t_of upd_same
            have zz : ∀ w : Int, w = (i : Nat) → SqT K (upd K'' t2 (.tup [.int (0 + (i : Nat)), .str (Ev.bgn l).name])) t2 [.int w, .str (Ev.bgn l).name] := fun w hw => by
              have : w = 0 + (i : Nat) := by omega
              rw [this]
              exact z
            exact zz _ rfl
          · have hfs : (((evs.take (q + 1)).filterMap bgn?).map fun l => (((i : Nat) : Int), l)) = (((evs.take q).filterMap bgn?).map fun l => (((i : Nat) : Int), l)) := by
              rw [take_snoc hee, List.filterMap_append, List.map_append]
              simp [bgn?]
            rw [hfs]
            exact ⟨false, congrArg V.bl (show decide (V.str "end" = V.str "begin") = false by decide), iteF ⟨K'', acc, g'', ow', pr, by omega⟩⟩
        rintro H15 ⟨Kb, acc, gb, ow3, pr, hle⟩
        rw [List.take_of_length_le (by omega)] at pr
        have gab := Same.tr ga gb
        have hlvl := hit.length
        have hlg := ph.ri.lg
        have hla15 : H15 la = some (.lst lv) := ow3.same _ _ (gab _ _ hla')
        refine ⟨_, _, _, _, rfl, rfl, hla15, ow3.fr, Nat.le_of_lt (sm (m := 100) (by omega) (by decide)), fun b hb => ?_⟩
        have kk := ow3.tailM.keepM (o := .lst (lv ++ acc)) hb
        have gz := Same.tr gab kk.2
        refine ⟨_, _, _, _, _, _, _, _, b, _, s1, lv ++ acc, _, asg', pend', es, c, rfl, Same.tr g gz, ⟨xi, xg, xx, hxi, hxg, kk.1.swapM⟩, upd_same, papp (hit.mono fun _ _ z => ItAt.up gz z) (pr.mono fun _ _ z => ItAt.up kk.2 z), ⟨ri', fun k hk => ?_, ph.nd, ph.ke⟩⟩
        rw [ph.ls k hk]
        rcases hcs with ⟨h1, rfl, rfl⟩ | ⟨l, r, h1, h2, h3, rfl, rfl⟩
        · rw [h1]
          simp
        · rw [h1]
          exact (rgs_begin ph.ri.al (((i : Nat) : Int), l) h3 k.name).symm
    · rintro σ H9 ⟨y2, y9, y10, y11, y12, y13, y14, y15, la, K', s, lv, items, asg, pend, es, c, rfl, g, d, hla', hit, ph⟩
      obtain ⟨xi, xg, xx, hxi, hxg, ow⟩ := d
      have hlen := ph.ri.lg
      have hLg : LogOk K K' S la lv items := ⟨l_of hla', hit, by omega, ph.ri.gl⟩
      have hSK := SetupAt.up g hS5
      obtain ⟨sv, rv', k1, k2, sp⟩ := ow.ex
      refine ⟨_, rfl, _, rfl, su, la, S, lv, items, K', _, rfl, hSK, hokS, plS, pl2, hLg, sp, fun Ka H10 rgA rv ga s10 hrg hrv => ?_⟩
      have ow1 : Own K A S Ka H10 s ((row, rowO sc xi xg xx) :: (si, siI K A sd2 ((60 : Nat))) :: (m, .dK (md S.order c)) :: (D, .dK (kvE es)) :: clE es) := ow.mk2 (s := s) ga ⟨sv, rv', k1.mono fun _ _ z => CallAt.up ga z, k2.mono fun _ _ z => RowAt.up ga z, s10⟩
      have hLa := hLg.up ga
      have hSa := SetupAt.up ga hSK
      have hlva := ga _ _ hla'
      have hita := hit.mono fun _ _ z => ItAt.up ga z
      have hlvl := hit.length
      have hrvl := hrv.length
      rw [plays_len] at hrvl
      refine ⟨_, rfl, _, rfl, su, la, S, lv, items, rfl, SetupAt.up ow1.same hSa, hokS, plS, pl2, hLa.up ow1.same, fun H11 g11 => ⟨rfl, false, rfl, iteF ?_⟩⟩
      have ow2 := ow1.grow g11
      refine ⟨_, rfl, _, _, rfl, .inl (l_of (ow2.same _ _ hrg)), _, rfl, _, _, rfl, .inl (l_of (ow2.same _ _ hlva)), rfl, false, congrArg V.bl (by rw [show rv.length = lv.length by omega]; simp), iteF ?_⟩
      refine ⟨_, rfl, _, _, rfl, .inl (l_of (ow2.same _ _ hlva)), _, rfl, by omega, by omega, ?_⟩
      refine for_it (walk_range (lo := 0) (n := ((lv.length : Int)).toNat)) (fun k σ H' => ∃ y2 y9 y10 y11 y12 y14 y15 es, σ = [some (.ref sc), some (.ref row), y2, some (.ref p), some (.ref su), some (.ref D), some (.ref la), some (.int (1 + r0)), some (.ref si), y9, y10, y11, y12, some (.ref rgA), y14, y15] ∧ Own K A S Ka H' s ((row, rowO sc xi xg xx) :: (si, siI K A sd2 ((60 : Nat))) :: (m, .dK (md S.order c)) :: (D, .dK (kvE es)) :: clE es) ∧ P2 S items asg pend k es) ⟨_, _, _, _, _, _, _, es, rfl, ow2, ⟨fun l hl => ph.ls l hl, ph.nd, ph.ke⟩⟩ (fun _ _ _ _ _ => trivial) ?_ ?_
      · rintro k v σ H12 H13 hk ⟨y2, y9, y10, y11, y12, y14, y15, es, rfl, ow3, p2⟩ ⟨rfl, rfl⟩
        have hki : k < lv.length := by omega
        have hv1 : lv[k]? = some lv[k] := List.getElem?_eq_getElem hki
        obtain ⟨it, hitk, t, hte, ht⟩ := pget hita hv1
        have hzz : ((0 : Int) + (k : Nat)) = (k : Nat) := by omega
        have hat : atI lv ((0 : Int) + (k : Nat)) = some (.ref t) := by rw [hzz, ← hte]; exact atIn hv1
        refine ⟨_, rfl, _, rfl, _, _, _, _, rfl, rfl, l_of (ow3.same _ _ hlva), hat, _, _, rfl, Same.tup ow3.same ht, rfl, _, _, rfl, _, _, rfl, rfl, ?_⟩
        have io := GL_at (rkN S) items lp0 k it ph.ri.gl hitk
        have hasl : k < asg.length := by have := ph.ri.al; omega
        have hask : asg[k]? = some asg[k] := List.getElem?_eq_getElem hasl
        have hq := p2.ls it.2 io.ln
        rw [qOf_drop hitk hask, if_pos rfl] at hq
        have hin : it.2.name ∈ keE es := by
          refine Classical.byContradiction fun z => ?_
          rw [ls_none z] at hq
          cases hq
        obtain ⟨l1, a, os, l2, rfl, hn1, hn2⟩ := es_split p2.nd hin
        rw [ls_hit hn1] at hq
        have hDd : H13 D = some (.dK (kvE (l1 ++ (it.2.name, a, os) :: l2))) := ow3.atM (by simp)
        have hac : H13 a = some (.lst (os.map V.int)) := ow3.atM (by simp [clE])
        refine ⟨_, rfl, _, rfl, D, .ref a, rfl, val_split hn1 ▸ DGet.k (k := .inr it.2.name) hDd, .inl ⟨rfl, _, .inl (.inl hac)⟩, ?_⟩
        obtain ⟨os', hos', hos⟩ : ∃ os', os' = qOf (items.drop (k + 1)) (asg.drop (k + 1)) it.2.name ++ (pend it.2.name).toList ∧ os = asg[k] :: os' := ⟨_, rfl, by rw [hq]; rfl⟩
        subst hos
        have hseq : seqIndex? 0 ((asg[k] :: os').map V.int).length = some 0 := by
          unfold seqIndex?
          simp
        refine ⟨_, _, _, 0, _, rfl, rfl, hac, by decide, by decide, hseq, rfl, ?_⟩
        rw [cl_app] at ow3
        have ow4 := Own.putAt (L1 := (row, rowO sc xi xg xx) :: (si, siI K A sd2 ((60 : Nat))) :: (m, .dK (md S.order c)) :: (D, .dK (kvE (l1 ++ (it.2.name, a, asg[k] :: os') :: l2))) :: clE l1) (o' := .lst (os'.map V.int)) ow3
        have hr1 : rv[k]? = some (rv[k]'(by omega)) := List.getElem?_eq_getElem (by omega)
        obtain ⟨rg, hrgk, tr, htre, htr⟩ := pget hrv hr1
        have ar := ph.ri.ar k asg[k] rg hask hrgk
        have hsnd : rg.2 = it.1 := by
          have z := congrArg (fun l => l[k]?) (plays_snd (rkN S) items lp0)
          simp only [List.getElem?_map, hrgk, hitk, Option.map_some, Option.some.injEq] at z
          exact z
        have hatr : atI rv ((0 : Int) + (k : Nat)) = some (.ref tr) := by rw [hzz, ← htre]; exact atIn hr1
        have htr4 := Same.tup ow4.same htr
        have hrv4 := l_of (K := K) (ow4.same _ _ hrg)
        refine ⟨_, rfl, _, rfl, _, _, _, _, rfl, rfl, hrv4, hatr, _, _, _, _, rfl, rfl, htr4, rfl, _, rfl, _, _, rfl, rfl, true, congrArg V.bl (decide_eq_true ar.1), iteT ⟨_, rfl, _, rfl, _, _, _, _, rfl, rfl, hrv4, hatr, _, _, _, _, rfl, rfl, htr4, rfl, _, _, rfl, rfl, true, congrArg V.bl (decide_eq_true ar.2.1), iteF ?_⟩⟩
        refine ⟨_, rfl, _, rfl, _, _, _, _, rfl, rfl, hrv4, hatr, _, _, _, _, rfl, rfl, htr4, rfl, _, rfl, rfl, false, congrArg V.bl (by rw [hsnd]; simp), iteF ?_⟩
        refine ⟨_, rfl, _, rfl, _, _, _, _, rfl, rfl, hrv4, hatr, _, _, _, _, rfl, rfl, htr4, rfl, _, _, rfl, rfl, false, congrArg V.bl (decide_eq_false (by omega)), iteF ?_⟩
        have ek : kvE (l1 ++ (it.2.name, a, asg[k] :: os') :: l2) = kvE (l1 ++ (it.2.name, a, os') :: l2) := by simp [kvE]
        rw [ek] at ow4
        refine ⟨_, _, _, _, _, _, _, l1 ++ (it.2.name, a, os') :: l2, rfl, ?_, ⟨fun l hl => ?_, ?_, fun e me => ?_⟩⟩
        · rw [cl_app]
          exact ow4
        · rw [ls_repl (a := a) (os := asg[k] :: os') hn1]
          by_cases en : l.name = it.2.name
          · rw [if_pos en, hos', en]
          · have en2 : ¬ it.2.name = l.name := fun q => en q.symm
            have z := p2.ls l hl
            rw [qOf_drop hitk hask, if_neg en2] at z
            rw [if_neg en, z]
            rfl
        · have z := p2.nd
          rw [ke_app] at z ⊢
          exact z
        · rcases List.mem_append.mp me with me | me
          · exact p2.ke e (List.mem_append_left _ me)
          · rcases List.mem_cons.mp me with q | me
            · rw [q]
              exact ⟨it.2, io.ln, rfl⟩
            · exact p2.ke e (List.mem_append_right _ (List.mem_cons_of_mem _ me))
      · rintro σ H12 ⟨y2, y9, y10, y11, y12, y14, y15, es, rfl, ow3, p2⟩
        have hls : ∀ l ∈ S.ls, lsE es l.name = (pend l.name).toList := fun l hl => by
          have z := p2.ls l hl
          rw [List.drop_eq_nil_of_le (by omega)] at z
          simpa [qOf] using z
        have hDd : H12 D = some (.dK (kvE es)) := ow3.atM (by simp)
        refine ⟨D, _, hDd, trivial, fun od => ?_⟩
        have ow4 := Own.putAt (L1 := [(row, rowO sc xi xg xx), (si, siI K A sd2 ((60 : Nat))), (m, .dK (md S.order c))]) (o' := .frz od (.dK (kvE es))) ow3
        have hke : (keE es).length ≤ 12 := keys_le p2.nd p2.ke hll
        have hel : es.length ≤ 12 := by simpa [keE] using hke
        refine ⟨_, rfl, D, od, rfl, .inl ⟨_, upd_same, fun L hL => ?_⟩⟩
        refine lc_it walk_keys (fun q H' => Own K A S Ka H' s ((L, .lst ((leftE (es.take q)).map V.str)) :: (row, rowO sc xi xg xx) :: (si, siI K A sd2 ((60 : Nat))) :: (m, .dK (md S.order c)) :: (D, .frz od (.dK (kvE es))) :: clE es)) (ow4.ownM' (same_new (Same.refl _) hL) hL upd_same) ?_ ?_ ?_
        · rintro q H' _ ow'
          exact ow'.atM (a := D) (o := .frz od (.dK (kvE es))) (by simp)
        · rintro q v H13 H14 hq ow' ⟨rfl, k, u, hku, rfl⟩
          unfold kvE at hku
          rw [List.getElem?_map] at hku
          obtain ⟨e, hee, heq⟩ := Option.map_eq_some_iff.mp hku
          cases heq
          have hem := List.mem_of_getElem? hee
          have hDf : H14 D = some (.frz od (.dK (kvE es))) := ow'.atM (by simp)
          have hac : H14 e.2.1 = some (.lst (e.2.2.map V.int)) := ow'.atM (by simp only [List.mem_cons]; exact .inr (.inr (.inr (.inr (.inr (List.mem_map_of_mem (f := fun e : En => (e.2.1, HO.lst (e.2.2.map V.int))) hem))))))
          refine ⟨rfl, _, rfl, _, rfl, D, .ref e.2.1, rfl, .inl ⟨kvE es, .inr e.1, .inr ⟨od, hDf⟩, rfl, (val_mem p2.nd hem).symm⟩, Nat.zero_le _, fun n0 hn0 => ?_⟩
          have ow6 := ow'.drop (o := .lst []) hn0
          have hac6 : upd H14 n0 (.lst []) e.2.1 = some (.lst (e.2.2.map V.int)) := same_new (Same.refl _) hn0 _ _ hac
          refine ⟨.list ((e.2.2.map V.int).map toD), .list [], .lst (l_of hac6) (flat_dp (ints_flat _)), .lst (l_of upd_same) .nil, flat_sh (ints_flat _), flat_sh (l := []) (fun _ m => by cases m), neE e, congrArg V.bl (by rw [flat_nil]; unfold neE; cases e.2.2 <;> rfl), ?_⟩
          rw [left_snoc hee]
          have hll2 : (leftE (es.take q)).length ≤ 12 := by
            unfold leftE
            have h1 := List.length_filter_le neE (es.take q)
            have h2 := List.length_take_le q es
            rw [List.length_map]
            have h3 : (es.take q).length ≤ es.length := by rw [List.length_take]; omega
            omega
          cases hne : neE e with
          | true =>
            refine iteT ⟨_, rfl, _, ow6.fr, sm (m := 12) (by simpa using hll2) (by decide), ?_⟩
            rw [if_pos rfl, List.map_append]
            exact ow6.putM
          | false =>
            refine iteF ?_
            rw [if_neg (by simp), List.append_nil]
            exact ow6
        rintro H13 ow5
        rw [List.take_of_length_le (by simp [kvE])] at ow5
        refine ⟨ow5.atM (a := D) (o := .frz od (.dK (kvE es))) (by simp), ?_⟩
        have ow6 := Own.putAt (L1 := [(L, .lst ((leftE es).map V.str)), (row, rowO sc xi xg xx), (si, siI K A sd2 ((60 : Nat))), (m, .dK (md S.order c))]) (o' := .dK (kvE es)) ow5
        have hlf : (leftE es).length ≤ 12 := by
          unfold leftE
          have h1 := List.length_filter_le neE es
          rw [List.length_map]
          omega
        have hwl : (S.order.filter s.rung).length ≤ 12 := Nat.le_trans (List.length_filter_le _ _) hokS.len
        refine ⟨_, rfl, L, leftE es, rfl, l_of ow6.fr, by omega, fun ys1 p1 pm1 so1 hp1 => ?_⟩
        have ow7 := ow6.drop (o := .lst (ys1.map V.str)) hp1
        have ow8 := ow7.permM (N := (si, siI K A sd2 ((60 : Nat))) :: (L, .lst ((leftE es).map V.str)) :: (row, rowO sc xi xg xx) :: (m, .dK (md S.order c)) :: (D, .dK (kvE es)) :: clE es) (List.perm_middle (l₁ := [_, _])).symm
        refine ⟨_, rfl, si, sd2, _, rfl, ow8.fr, A, S, Ka, s, si, sd2, _, _, rfl, ow8, fun p2a H15 g15 hp2 hp21 => ?_⟩
        refine ⟨p2a, S.order.filter s.rung, rfl, l_of hp21, by omega, fun ys2 p3 pm2 so2 hp3 => ?_⟩
        have hyy : ys1 = ys2 := sorted_uniq so1 so2 (pm1.trans ((left_perm hokS p2.nd p2.ke hls ph.ri.pd).trans pm2.symm))
        have fl2 : ∀ n ∈ ys2, ∃ k ∈ S.ls, k.name = n := fun n mn => hokS.line (List.mem_filter.mp (pm2.mem_iff.mp mn)).1
        have hfl := names_flat hokS fl2
        subst hyy
        have ow9 := (ow8.grow g15).drop (o := .lst (ys1.map V.str)) hp3
        have hy1 : upd H15 p3 (.lst (ys1.map V.str)) p1 = some (.lst (ys1.map V.str)) := same_new (Same.refl _) hp3 _ _ (g15 _ _ upd_same)
        refine ⟨.list ((ys1.map V.str).map toD), .list ((ys1.map V.str).map toD), .lst (l_of hy1) (flat_dp hfl), .lst (l_of upd_same) (flat_dp hfl), flat_sh hfl, flat_sh hfl, false, congrArg V.bl (by rw [strs_eq]; rfl), iteF ?_⟩
        have owA := ow9.permM (N := (row, rowO sc xi xg xx) :: (si, siI K A sd2 ((60 : Nat))) :: (L, .lst ((leftE es).map V.str)) :: (m, .dK (md S.order c)) :: (D, .dK (kvE es)) :: clE es) (List.perm_middle (l₁ := [_, _])).symm
        refine ⟨_, rfl, Nat.zero_le _, fun n0 hn0 => ?_⟩
        have owB := owA.drop (o := .lst []) hn0
        have itok : ∀ x ∈ items, nameOk x.2.name := fun x mx => by
          obtain ⟨j, hj⟩ := List.mem_iff_getElem?.mp mx
          exact (hokS.ok.ok _ (GL_at (rkN S) items lp0 j x ph.ri.gl hj).ln).nm
        refine ⟨.list (items.map itD), .list [], .lst (l_of (owB.same _ _ hlva)) (its_dp (hita.mono fun _ _ z => ItAt.up owB.same z)), .lst (l_of upd_same) .nil, its_sh itok, its_sh (l := []) (fun _ m => by cases m), !items.isEmpty, by rw [its_nil], ?_⟩
        have gH : Same H Ka := Same.tr g1 (Same.tr g2 (Same.tr g25 (Same.tr g ga)))
        have fin : ∀ (Kx Hx : Hp) (M : List (Addr × HO)), Own K A S Kx Hx s ((row, rowO sc xi xg xx) :: M) → Dr Kx Hx row sc [] := fun Kx Hx M o => by
          obtain ⟨sv9, rv9, _, _, sp9⟩ := o.ex
          exact ⟨xi, xg, xx, hxi, hxg, Sep.weak (L := [_]) sp9.up6⟩
        cases hie : items.isEmpty with
        | true => exact iteF (iteF ⟨_, _, _, _, _, _, _, _, _, _, _, _, _, _, Ka, rfl, gH, fin _ _ _ owB⟩)
        | false =>
          refine iteT ⟨_, rfl, _, rfl, _, rfl, _, rfl, la, lv, rfl, l_of (owB.same _ _ hlva), fun l2 hl2 => ?_⟩
          rw [cut_last]
          have kk := owB.keepM (o := .lst (lv.take (lv.length - 1))) hl2
          obtain ⟨sv5, rv5, e1, e2, sp5⟩ := kk.1.ex
          have hL5 : LogOk K (upd Ka l2 (.lst (lv.take (lv.length - 1)))) S l2 (lv.take (lv.length - 1)) (items.take (lv.length - 1)) := ⟨l_of upd_same, ptake (hita.mono fun _ _ z => ItAt.up kk.2 z) _, by rw [List.length_take]; omega, GL_take (rkN S) items lp0 _ ph.ri.gl⟩
          refine ⟨su, l2, S, _, _, _, _, rfl, SetupAt.up kk.2 hSa, hokS, plS, pl2, hL5, sp5, fun Kb H17 p4 rv4 gb s17 hp4 hrv4 => ?_⟩
          have owC : Own K A S Kb H17 s ((row, rowO sc xi xg xx) :: (si, siI K A sd2 ((60 : Nat))) :: (L, .lst ((leftE es).map V.str)) :: (m, .dK (md S.order c)) :: (D, .dK (kvE es)) :: clE es) := kk.1.mk2 (s := s) gb ⟨sv5, rv5, e1.mono fun _ _ z => CallAt.up gb z, e2.mono fun _ _ z => RowAt.up gb z, s17⟩
          have gkb := Same.tr kk.2 gb
          refine ⟨_, rfl, _, rfl, _, rfl, rgA, rv, rfl, l_of (owC.same _ _ (gkb _ _ hrg)), fun l5 hl5 => ?_⟩
          rw [cut_last]
          have owD := owC.drop (o := .lst (rv.take (rv.length - 1))) hl5
          have hpe : plays (rkN S) lp0 (items.take (lv.length - 1)) = (plays (rkN S) lp0 items).take (rv.length - 1) := by
            rw [plays_take, show lv.length - 1 = rv.length - 1 by omega]
          rw [hpe] at hrv4
          have pr5 : Paired (PrAt K (upd H17 l5 (.lst (rv.take (rv.length - 1))))) (rv.take (rv.length - 1)) ((plays (rkN S) lp0 items).take (rv.length - 1)) := ptake (hrv.mono fun _ _ z => PrAt.up (Same.tr gkb owD.same) z) _
          refine ⟨.list (((plays (rkN S) lp0 items).take (rv.length - 1)).map prD), .list (((plays (rkN S) lp0 items).take (rv.length - 1)).map prD), .lst (l_of (owD.same _ _ hp4)) (prs_dp (hrv4.mono fun _ _ z => PrAt.up owD.same z)), .lst (l_of upd_same) (prs_dp pr5), prs_sh _, prs_sh _, false, congrArg V.bl (by rw [prs_eq]; rfl), iteF ?_⟩
          exact ⟨_, _, _, _, _, _, _, _, _, _, _, _, _, _, Kb, rfl, Same.tr gH gkb, fin _ _ _ owD⟩
end
end Cb

namespace Cb
open PySem PySem.Spec PyProof.Rows L2
theorem facts {P : Program} {w : World} {K : PySem.W.Frag} {h : Heap} {mg : Str → Option Value} {f : Addr} (X : K.In h) (G : h.Ns mainGlobals mg) (hfa : mg ("law" : Str) = some (.ref f)) (c : SaysM exM fn tsM w K) :
    ∃ fd : FuncData, (∀ (s : Shared) (v : Value), BindsTo s fd ⟨[v], []⟩ [("_law_script", v)]) ∧ ∀ base : Heap, K.In base → base.Ns mainGlobals mg → FnOk P w K mg base C8.CX0 12 f fd ["_law_script"] (sp_law K) := by
  have T := txt_of X G c.exok
  obtain ⟨es, nn, D⟩ := c.tab 0
  obtain ⟨_, F_is_integer⟩ := c.def_ 0 (d := D_is_integer) rfl
  obtain ⟨_, F_is_letters⟩ := c.def_ 1 (d := D_is_letters) rfl
  obtain ⟨_, F_is_name⟩ := c.def_ 2 (d := D_is_name) rfl
  obtain ⟨_, F_is_line⟩ := c.def_ 3 (d := D_is_line) rfl
  obtain ⟨_, F_is_work⟩ := c.def_ 4 (d := D_is_work) rfl
  obtain ⟨_, F_is_step⟩ := c.def_ 5 (d := D_is_step) rfl
  obtain ⟨_, F_spoilt_named⟩ := c.def_ 6 (d := D_spoilt_named) rfl
  obtain ⟨_, F_spoilt_line⟩ := c.def_ 7 (d := D_spoilt_line) rfl
  obtain ⟨_, F_spoilt_work⟩ := c.def_ 8 (d := D_spoilt_work) rfl
  obtain ⟨_, F_spoilt_handler⟩ := c.def_ 9 (d := D_spoilt_handler) rfl
  obtain ⟨_, F_check_setup⟩ := c.def_ 18 (d := D_check_setup) rfl
  obtain ⟨_, F_Setup_contains⟩ := c.def_ 11 (d := D_Setup_contains) rfl
  obtain ⟨_, F_Setup_init⟩ := c.def_ 10 (d := D_Setup_init) rfl
  obtain ⟨_, F_Setup_getitem⟩ := c.def_ 12 (d := D_Setup_getitem) rfl
  obtain ⟨_, F_Setup_order⟩ := c.def_ 15 (d := D_Setup_order) rfl
  obtain ⟨_, F_Setup_ticks_of⟩ := c.def_ 17 (d := D_Setup_ticks_of) rfl
  obtain ⟨_, F_put_changed⟩ := c.def_ 30 (d := D_put_changed) rfl
  obtain ⟨_, F_Board_check_line⟩ := c.def_ 32 (d := D_Board_check_line) rfl
  obtain ⟨_, F_Board_is_edge⟩ := c.def_ 33 (d := D_Board_is_edge) rfl
  obtain ⟨_, F_Board_ring⟩ := c.def_ 34 (d := D_Board_ring) rfl
  obtain ⟨_, F_Board_begin⟩ := c.def_ 35 (d := D_Board_begin) rfl
  obtain ⟨_, F_Board_end⟩ := c.def_ 36 (d := D_Board_end) rfl
  obtain ⟨_, F_Board_waits⟩ := c.def_ 38 (d := D_Board_waits) rfl
  obtain ⟨_, F_Board_is_enabled⟩ := c.def_ 37 (d := D_Board_is_enabled) rfl
  obtain ⟨_, F_Board_waiting_lines⟩ := c.def_ 39 (d := D_Board_waiting_lines) rfl
  obtain ⟨_, F_Board_init⟩ := c.def_ 31 (d := D_Board_init) rfl
  obtain ⟨_, F_Board_ready_lines⟩ := c.def_ 40 (d := D_Board_ready_lines) rfl
  obtain ⟨_, F_WorkQueue_rows⟩ := c.def_ 42 (d := D_WorkQueue_rows) rfl
  obtain ⟨_, F_WorkQueue_is_empty⟩ := c.def_ 43 (d := D_WorkQueue_is_empty) rfl
  obtain ⟨_, F_WorkQueue_init⟩ := c.def_ 41 (d := D_WorkQueue_init) rfl
  obtain ⟨_, F_WorkQueue_put⟩ := c.def_ 44 (d := D_WorkQueue_put) rfl
  obtain ⟨_, F_WorkQueue_spend⟩ := c.def_ 45 (d := D_WorkQueue_spend) rfl
  obtain ⟨_, F_Setup_works⟩ := c.def_ 14 (d := D_Setup_works) rfl
  obtain ⟨_, F_Processor_takes_no_tick⟩ := c.def_ 54 (d := D_Processor_takes_no_tick) rfl
  obtain ⟨_, F_Processor_present_step⟩ := c.def_ 52 (d := D_Processor_present_step) rfl
  obtain ⟨_, F_Processor_passes_flag⟩ := c.def_ 53 (d := D_Processor_passes_flag) rfl
  obtain ⟨_, F_Processor_act⟩ := c.def_ 55 (d := D_Processor_act) rfl
  obtain ⟨_, F_Processor_lets_by⟩ := c.def_ 51 (d := D_Processor_lets_by) rfl
  obtain ⟨_, F_Processor_go_through⟩ := c.def_ 56 (d := D_Processor_go_through) rfl
  obtain ⟨_, F_Processor_spend_beside_calls⟩ := c.def_ 58 (d := D_Processor_spend_beside_calls) rfl
  obtain ⟨_, F_Processor_spend⟩ := c.def_ 57 (d := D_Processor_spend) rfl
  obtain ⟨_, F_Processor_go_on⟩ := c.def_ 48 (d := D_Processor_go_on) rfl
  obtain ⟨_, F_Processor_take⟩ := c.def_ 47 (d := D_Processor_take) rfl
  obtain ⟨_, F_Processor_spent_ticks⟩ := c.def_ 50 (d := D_Processor_spent_ticks) rfl
  obtain ⟨_, F_Processor_call_rows⟩ := c.def_ 49 (d := D_Processor_call_rows) rfl
  obtain ⟨_, F_Processor_init⟩ := c.def_ 46 (d := D_Processor_init) rfl
  obtain ⟨_, F_Single_ring⟩ := c.def_ 60 (d := D_Single_ring) rfl
  obtain ⟨_, F_Single_calls⟩ := c.def_ 63 (d := D_Single_calls) rfl
  obtain ⟨_, F_Single_spent⟩ := c.def_ 64 (d := D_Single_spent) rfl
  obtain ⟨_, F_Single_tick⟩ := c.def_ 61 (d := D_Single_tick) rfl
  obtain ⟨_, F_Single_init⟩ := c.def_ 59 (d := D_Single_init) rfl
  obtain ⟨_, F_law_taken⟩ := c.def_ 65 (d := D_law_taken) rfl
  obtain ⟨_, F_law_mixed⟩ := c.def_ 66 (d := D_law_mixed) rfl
  obtain ⟨_, F_law_plain⟩ := c.def_ 67 (d := D_law_plain) rfl
  obtain ⟨_, F_Setup_lines⟩ := c.def_ 13 (d := D_Setup_lines) rfl
  obtain ⟨_, F_Single_waiting⟩ := c.def_ 62 (d := D_Single_waiting) rfl
  obtain ⟨_, F_Setup_is_plain⟩ := c.def_ 16 (d := D_Setup_is_plain) rfl
  obtain ⟨_, F_LogPlay_is_formed⟩ := c.def_ 24 (d := D_LogPlay_is_formed) rfl
  obtain ⟨_, F_LogPlay_lets_by⟩ := c.def_ 26 (d := D_LogPlay_lets_by) rfl
  obtain ⟨_, F_LogPlay_earliest_ring⟩ := c.def_ 27 (d := D_LogPlay_earliest_ring) rfl
  obtain ⟨_, F_LogPlay_begin⟩ := c.def_ 28 (d := D_LogPlay_begin) rfl
  obtain ⟨_, F_LogPlay_go_by⟩ := c.def_ 29 (d := D_LogPlay_go_by) rfl
  obtain ⟨_, F_LogPlay_go_on_until⟩ := c.def_ 25 (d := D_LogPlay_go_on_until) rfl
  obtain ⟨_, F_LogPlay_init⟩ := c.def_ 23 (d := D_LogPlay_init) rfl
  obtain ⟨_, F_played_ranges⟩ := c.def_ 22 (d := D_played_ranges) rfl
  obtain ⟨_, F_check_plain⟩ := c.def_ 19 (d := D_check_plain) rfl
  obtain ⟨_, F_first_impossible⟩ := c.def_ 20 (d := D_first_impossible) rfl
  obtain ⟨_, F_ring_ranges⟩ := c.def_ 21 (d := D_ring_ranges) rfl
  obtain ⟨_, F_law⟩ := c.def_ 68 (d := D_law) rfl
  have e := hfa.symm.trans T.f_law
  cases e
  have b := FunD.bindsA (ps := ["_law_script"]) F_law fun _ _ _ _ _ _ us hl => match us, hl with | [_], _ => rfl
  refine ⟨_, fun s v => b s [v] rfl, fun base _ _ => ?_⟩
  have c_is_integer := ok_is_integer (P := P) (w := w) (base := base) T F_is_integer 
  have c_is_letters := ok_is_letters (P := P) (w := w) (base := base) T F_is_letters 
  have c_is_name := ok_is_name (P := P) (w := w) (base := base) T F_is_name c_is_letters
  have c_is_line := ok_is_line (P := P) (w := w) (base := base) T F_is_line c_is_integer c_is_name
  have c_is_work := ok_is_work (P := P) (w := w) (base := base) T F_is_work c_is_integer c_is_name
  have c_is_step := ok_is_step (P := P) (w := w) (base := base) T F_is_step c_is_integer D
  have c_spoilt_named := ok_spoilt_named (P := P) (w := w) (base := base) T F_spoilt_named 
  have c_spoilt_line := ok_spoilt_line (P := P) (w := w) (base := base) T F_spoilt_line c_is_line c_spoilt_named
  have c_spoilt_work := ok_spoilt_work (P := P) (w := w) (base := base) T F_spoilt_work c_is_work c_spoilt_named
  have c_spoilt_handler := ok_spoilt_handler (P := P) (w := w) (base := base) T F_spoilt_handler c_is_step
  have c_check_setup := ok_check_setup (P := P) (w := w) (base := base) T F_check_setup c_spoilt_line c_spoilt_work c_spoilt_handler
  have c_Setup_contains := ok_Setup_contains (P := P) (w := w) (base := base) T F_Setup_contains 
  have c_Setup_init := ok_Setup_init (P := P) (w := w) (base := base) T F_Setup_init c_check_setup
  have c_Setup_init1 := ok_Setup_init1 (P := P) (w := w) (base := base) T F_Setup_init c_check_setup
  have c_Setup_getitem := ok_Setup_getitem (P := P) (w := w) (base := base) T F_Setup_getitem c_Setup_contains
  have c_Setup_order := ok_Setup_order (P := P) (w := w) (base := base) T F_Setup_order 
  have c_Setup_ticks_of := ok_Setup_ticks_of (P := P) (w := w) (base := base) T F_Setup_ticks_of c_Setup_getitem
  have c_put_changed := ok_put_changed (P := P) (w := w) (base := base) T F_put_changed 
  have c_Board_check_line := ok_Board_check_line (P := P) (w := w) (base := base) T F_Board_check_line c_Setup_contains
  have c_Board_is_edge := ok_Board_is_edge (P := P) (w := w) (base := base) T F_Board_is_edge c_Setup_getitem
  have c_Board_ring := ok_Board_ring (P := P) (w := w) (base := base) T F_Board_ring c_Board_check_line c_put_changed
  have c_Board_begin := ok_Board_begin (P := P) (w := w) (base := base) T F_Board_begin c_Board_is_edge
  have c_Board_end := ok_Board_end (P := P) (w := w) (base := base) T F_Board_end 
  have c_Board_waits := ok_Board_waits (P := P) (w := w) (base := base) T F_Board_waits c_Board_is_edge
  have c_Board_is_enabled := ok_Board_is_enabled (P := P) (w := w) (base := base) T F_Board_is_enabled 
  have c_Board_waiting_lines := ok_Board_waiting_lines (P := P) (w := w) (base := base) T F_Board_waiting_lines c_Setup_order c_Board_waits
  have c_Board_init := ok_Board_init (P := P) (w := w) (base := base) T F_Board_init c_Setup_order
  have c_Board_ready_lines := ok_Board_ready_lines (P := P) (w := w) (base := base) T F_Board_ready_lines c_Board_waiting_lines c_Board_is_enabled
  have c_WorkQueue_rows := ok_WorkQueue_rows (P := P) (w := w) (base := base) T F_WorkQueue_rows 
  have c_WorkQueue_is_empty := ok_WorkQueue_is_empty (P := P) (w := w) (base := base) T F_WorkQueue_is_empty 
  have c_WorkQueue_init := ok_WorkQueue_init (P := P) (w := w) (base := base) T F_WorkQueue_init 
  have c_WorkQueue_put := ok_WorkQueue_put (P := P) (w := w) (base := base) T F_WorkQueue_put 
  have c_WorkQueue_put1 := ok_WorkQueue_put1 (P := P) (w := w) (base := base) T F_WorkQueue_put 
  have c_WorkQueue_spend := ok_WorkQueue_spend (P := P) (w := w) (base := base) T F_WorkQueue_spend 
  have c_Setup_works := ok_Setup_works (P := P) (w := w) (base := base) T F_Setup_works 
  have c_Processor_takes_no_tick := ok_Processor_takes_no_tick (P := P) (w := w) (base := base) T F_Processor_takes_no_tick 
  have c_Processor_present_step := ok_Processor_present_step (P := P) (w := w) (base := base) T F_Processor_present_step c_Setup_getitem
  have c_Processor_passes_flag := ok_Processor_passes_flag (P := P) (w := w) (base := base) T F_Processor_passes_flag c_Processor_present_step
  have c_Processor_act := ok_Processor_act (P := P) (w := w) (base := base) T F_Processor_act c_WorkQueue_put1
  have c_Processor_lets_by := ok_Processor_lets_by (P := P) (w := w) (base := base) T F_Processor_lets_by c_Setup_getitem
  have c_Processor_go_through := ok_Processor_go_through (P := P) (w := w) (base := base) T F_Processor_go_through c_Setup_getitem c_Processor_takes_no_tick c_Processor_act c_Board_end
  have c_Processor_spend_beside_calls := ok_Processor_spend_beside_calls (P := P) (w := w) (base := base) T F_Processor_spend_beside_calls c_WorkQueue_is_empty c_WorkQueue_spend
  have c_Processor_spend := ok_Processor_spend (P := P) (w := w) (base := base) T F_Processor_spend c_Processor_spend_beside_calls c_Processor_present_step c_Processor_go_through
  have c_Processor_go_on := ok_Processor_go_on (P := P) (w := w) (base := base) T F_Processor_go_on c_Processor_passes_flag c_Processor_spend
  have c_Processor_take := ok_Processor_take (P := P) (w := w) (base := base) T F_Processor_take c_Processor_lets_by c_Board_begin c_Processor_go_through
  have c_Processor_spent_ticks := ok_Processor_spent_ticks (P := P) (w := w) (base := base) T F_Processor_spent_ticks 
  have c_Processor_call_rows := ok_Processor_call_rows (P := P) (w := w) (base := base) T F_Processor_call_rows 
  have c_Processor_init := ok_Processor_init (P := P) (w := w) (base := base) T F_Processor_init c_Setup_works c_WorkQueue_init
  have c_Single_ring := ok_Single_ring (P := P) (w := w) (base := base) T F_Single_ring c_Board_ring
  have c_Single_calls := ok_Single_calls (P := P) (w := w) (base := base) T F_Single_calls c_Processor_call_rows
  have c_Single_spent := ok_Single_spent (P := P) (w := w) (base := base) T F_Single_spent c_Processor_spent_ticks
  have c_Single_tick := ok_Single_tick (P := P) (w := w) (base := base) T F_Single_tick c_Processor_take c_Board_ready_lines c_Processor_go_on
  have c_Single_init := ok_Single_init (P := P) (w := w) (base := base) T F_Single_init c_Board_init c_Processor_init
  have c_law_taken := ok_law_taken (P := P) (w := w) (base := base) T F_law_taken 
  have cP_Processor_lets_by := okP_Processor_lets_by (P := P) (w := w) (base := base) T F_Processor_lets_by c_Setup_getitem
  have cP_Processor_go_through := okP_Processor_go_through (P := P) (w := w) (base := base) T F_Processor_go_through c_Setup_getitem c_Processor_takes_no_tick c_Processor_act c_Board_end
  have cP_Processor_spend_beside_calls := okP_Processor_spend_beside_calls (P := P) (w := w) (base := base) T F_Processor_spend_beside_calls c_WorkQueue_is_empty c_WorkQueue_spend
  have cP_Processor_spend := okP_Processor_spend (P := P) (w := w) (base := base) T F_Processor_spend cP_Processor_spend_beside_calls c_Processor_present_step cP_Processor_go_through
  have cP_Processor_go_on := okP_Processor_go_on (P := P) (w := w) (base := base) T F_Processor_go_on c_Processor_passes_flag cP_Processor_spend
  have cP_Processor_take := okP_Processor_take (P := P) (w := w) (base := base) T F_Processor_take cP_Processor_lets_by c_Board_begin cP_Processor_go_through
  have cP_Single_tick := okP_Single_tick (P := P) (w := w) (base := base) T F_Single_tick cP_Processor_take c_Board_ready_lines cP_Processor_go_on
  have c_law_mixed := ok_law_mixed (P := P) (w := w) (base := base) T F_law_mixed c_law_taken
  have c_law_plain := ok_law_plain (P := P) (w := w) (base := base) T F_law_plain c_law_taken c_law_mixed
  have c_Setup_lines := ok_Setup_lines (P := P) (w := w) (base := base) T F_Setup_lines 
  have c_Single_waiting := ok_Single_waiting (P := P) (w := w) (base := base) T F_Single_waiting c_Board_waiting_lines
  have c_Setup_is_plain := ok_Setup_is_plain (P := P) (w := w) (base := base) T F_Setup_is_plain 
  have c_LogPlay_is_formed := ok_LogPlay_is_formed (P := P) (w := w) (base := base) T F_LogPlay_is_formed c_is_integer
  have c_LogPlay_lets_by := ok_LogPlay_lets_by (P := P) (w := w) (base := base) T F_LogPlay_lets_by 
  have c_LogPlay_earliest_ring := ok_LogPlay_earliest_ring (P := P) (w := w) (base := base) T F_LogPlay_earliest_ring 
  have c_LogPlay_begin := ok_LogPlay_begin (P := P) (w := w) (base := base) T F_LogPlay_begin 
  have c_LogPlay_go_by := ok_LogPlay_go_by (P := P) (w := w) (base := base) T F_LogPlay_go_by 
  have c_LogPlay_go_on_until := ok_LogPlay_go_on_until (P := P) (w := w) (base := base) T F_LogPlay_go_on_until c_LogPlay_go_by
  have c_LogPlay_init := ok_LogPlay_init (P := P) (w := w) (base := base) T F_LogPlay_init c_Setup_lines c_Setup_ticks_of
  have c_played_ranges := ok_played_ranges (P := P) (w := w) (base := base) T F_played_ranges c_LogPlay_init c_LogPlay_is_formed c_LogPlay_go_on_until c_LogPlay_lets_by c_LogPlay_earliest_ring c_LogPlay_begin
  have c_check_plain := ok_check_plain (P := P) (w := w) (base := base) T F_check_plain c_Setup_is_plain
  have c_first_impossible := ok_first_impossible (P := P) (w := w) (base := base) T F_first_impossible c_check_plain c_played_ranges
  have c_ring_ranges := ok_ring_ranges (P := P) (w := w) (base := base) T F_ring_ranges c_first_impossible c_played_ranges
  exact ok_law T F_law c_law_taken c_law_plain c_Setup_init1 c_Single_init c_Single_ring cP_Single_tick c_Single_waiting c_ring_ranges c_first_impossible
end Cb
open PySem PySem.W PySem.Calls PyProof.Rows
theorem PySem.Challenge.cw_callbells_k35_whole_true_rings_are_in_ra_holds : PySem.Challenge.rw_callbells_k35_whole_true_rings_are_in_ra.Holds := by
  w_on; o_law
  refine HandSHeadRun.head_any (r := OpenLaw.row PySem.Challenge.rw_callbells_k35_whole_true_rings_are_in_ra) (q := view (OpenLaw.row PySem.Challenge.rw_callbells_k35_whole_true_rings_are_in_ra).prog [57]) (H := Cb.hk) (ob := Cb.ob) (M := 30000) (loose := Cb.nms) (d := HandSHeadRun.topDef (OpenLaw.row PySem.Challenge.rw_callbells_k35_whole_true_rings_are_in_ra).prog 57) (kwd := []) Cb.ob_eq
    (by kernel_rfl) (fun s => by kernel_rfl) Cb.run (by kernel_rfl) (by kernel_rfl) (by kernel_rfl) (by rfl) (by first | assumption | decide +kernel) (by decide +kernel) ⟨rfl, rfl, rfl, rfl, rfl, by decide +kernel⟩ ?hw ?hc
  case hw => w_witness2
  case hc =>
    refine L2.walk_ofE (l := PySem.Challenge.rw_callbells_k35_whole_true_rings_are_in_ra) (n := 63) (k := 12) (x := "_law_script") (CX := C8.CX0) rfl (by decide) (by kernel_rfl) ⟨rfl, by decide, by decide⟩ ?F (fun _ _ _ _ z => z)
    intro w mg fa h Y G hmg0
    obtain ⟨K, KX, c⟩ := Y
    have hmg : mg ("law" : PySem.Str) = some (.ref fa) := by
      have e : (HandSHeadRun.topDef (OpenLaw.row PySem.Challenge.rw_callbells_k35_whole_true_rings_are_in_ra).prog 57).name = ("law" : PySem.Str) := by kernel_rfl
      rw [← e]
      exact hmg0
    obtain ⟨fd, hb, hF⟩ := Cb.facts (P := (PySem.Challenge.rw_callbells_k35_whole_true_rings_are_in_ra).prog) (w := w) KX G hmg c
    exact ⟨K, fd, Cb.sp_law K, KX, hb, fun H a ns hl _ hS => ⟨a, ns, rfl, hS, fun _ => rfl⟩, hF⟩

